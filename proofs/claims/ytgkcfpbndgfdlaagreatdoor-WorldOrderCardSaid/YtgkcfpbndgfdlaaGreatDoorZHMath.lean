import Derived.Test.YtgkcfpbndgfdlaaGreatDoorZBackMath
import Derived.Test.YtgkcfpbndgfdlaaGreatDoorZNmSet
import Derived.Lib.IndexMore
import Derived.Lib.Fields
set_option linter.all false
open Go.Lib renaming itoa->F,fieldsGo->I,fields->j,isSp->t,index->u,cut->w
open List renaming mem_cons_of_mem->Z,mem_cons->J,mem_append->E,cons_append->T,not_mem_nil->g,nil_append->i,map_cons->o
open Bool renaming and_eq_true->G,false_eq_true->Y,true->C,false->v
namespace Go.Proofs.YtgkcfpbndgfdlaaGreatDoor
open Go.RowKit
theorem KB(c:UInt8)(r:List UInt8):∀(p:List UInt8),c∉p->u (p++c::r) [c]=(p.length:Int)
 |[],_=>by simp[Lib.index]
 |b::l,h=>by
  have a:c≠b:=λe=>h (by simp[e]);have f:=KB c r l (λhm=>h (by simp[hm]));have d:([c]:List UInt8).isPrefixOf (b::(l++c::r))=v:=by simp[List.isPrefixOf,a]
  rw[T,u,d,f];simp only[Y,if_false,List.length_cons];rw[if_neg oS];simp
theorem VP(c:UInt8)(p r:List UInt8)(h:c∉p):w (p++c::r) [c]=(p,r,C):=by unfold w;rw[KB c r p h];simp
structure Ch where
 kind:Int
 name:Nm
 house:Int
 ids:List Int
 queued:List Mg
 dead:List Mg
 waits:List Mg
def BC:List Int->List UInt8
 |[]=>[]
 |[a]=>Lib.itoa a
 |a::b::l=>Lib.itoa a++32::BC (b::l)
def Ch.text(c:Ch):List UInt8:=F c.1++58::(c.2.1.1.1++58::(c.2.2.1.1++58::(F c.2.3++58::(F c.3++58::(BC c.4++58::(AC c.5++58::(AC c.6++58::(AC c.7++58::[10]))))))))
structure Ch.ok(c:Ch):Prop where
 okKind:0<=c.1/\c.1<=5
 okName:∀x∈c.2.1.1.1,x≠58/\x≠10
 okTo:∀x∈c.2.2.1.1,x≠58/\x≠10
 sz:c.2.1.size<=1000/\c.2.2.size<=1000
 nh:-1<=c.2.3/\c.2.3<=3
 okHouse:0<=c.3/\c.3<=3
 okIds:∀z∈c.4,0<=z/\z<=1099511627776
 few:c.4.length<=1000/\c.5.length<=1000/\c.6.length<=1000/\c.7.length<=1000
 okAll:(∀m∈c.5,right m=C)/\(∀m∈c.6,right m=C)/\(∀m∈c.7,right m=C)
theorem Cn(n:Int)(h:-1<=n):∀x∈F n,x≠58/\x≠10/\x≠43/\x.toNat<128/\x≠32:=by
 rcases Int.lt_or_le n 0 with a|a
 ·obtain rfl:n=-1:=O;intro x hx;have:F (-1)=[45,49]:=by decide+kernel
  rw[this]at hx;simp only[J,g,or_false]at hx;rcases hx with rfl|rfl<;>decide
 ·intro x hx;have:=FT n a x hx;refine⟨?_,?_,?_,O,?_⟩<;>(rintro rfl;revert this;decide)
theorem EB(s:ByteArray)(k:Int)(h:Ci s k=C):∀x∈s.1.1,x≠58/\x≠10:=by intro x hx;simp only[Ci,G]at h;have h1:=List.all_eq_true.1 h.2 x hx;simp only[GU,Bool.or_eq_true,G,decide_eq_true_eq]at h1;refine⟨?_,?_⟩<;>(rintro rfl;revert h1;decide)
theorem OZ(m:Mg)(h:right m=C):Ci m.3 12=C/\Ci m.4 8=C:=by simp only[right,G]at h;exact⟨h.1.1.2,h.1.2⟩
theorem N9(m:Mg)(h:right m=C):∀x∈BM m,x≠58/\x≠10:=by
 obtain⟨b,c,d,-,-⟩:=Bd m h;obtain⟨l1,a⟩:=OZ m h;intro x hx;simp only[BM,E,J,g,or_false]at hx;rcases hx with(((((((hx|hx)|hx)|hx)|hx)|hx)|hx)|hx)|hx
 ·have:=Cn m.1 O x hx;exact⟨this.1,this.2.1⟩
 ·subst hx;decide
 ·have:=Cn m.2 O x hx;exact⟨this.1,this.2.1⟩
 ·subst hx;decide
 ·exact EB _ _ l1 x hx
 ·subst hx;decide
 ·exact EB _ _ a x hx
 ·subst hx;decide
 ·have:=Cn m.5 O x hx;exact⟨this.1,this.2.1⟩
theorem join_mem(c:UInt8):∀(ps:List (List UInt8)) (x:UInt8),x∈E0 c ps->x=c\/∃p∈ps,x∈p
 |[],x,h=>by simp[E0]at h
 |[p],x,h=>.inr ⟨p,oS,by simpa[E0]using h⟩
 |p::q::r,x,h=>by
  have e:E0 c (p::q::r)=p++c::E0 c (q::r):=rfl;rw[e,E,J]at h;rcases h with h|h|h
  ·exact .inr ⟨p,oS,h⟩
  ·exact .inl h
  ·rcases join_mem c (q::r) x h with h|⟨b,a,hx⟩
   ·exact .inl h
   ·exact .inr ⟨b,Z _ a,hx⟩
theorem EM(ms:List Mg)(h:∀m∈ms,right m=C):∀x∈AC ms,x≠58/\x≠10:=by
 intro x hx;rw[Lj]at hx;rcases join_mem 43 _ x hx with rfl|⟨p,a,hx⟩
 ·decide
 ·obtain⟨m,hm,rfl⟩:=List.mem_map.1 a;exact N9 m (h m hm) x hx
theorem ED:∀(l:List Int),(∀z∈l,0<=z)->∀x∈BC l,x≠58/\x≠10/\x.toNat<128
 |[],_,x,h=>by simp[BC]at h
 |[a],h0,x,h=>by have:=Cn a (by have:=h0 a oS;omega) x h;exact⟨this.1,this.2.1,this.2.2.2.1⟩
 |a::b::l,h0,x,h=>by
  rw[BC,E,J]at h;rcases h with h|rfl|h
  ·have:=Cn a (by have:=h0 a oS;omega) x h;exact⟨this.1,this.2.1,this.2.2.2.1⟩
  ·decide
  ·exact ED (b::l) (λz c=>h0 z (Z _ c)) x h
theorem LP:∀(p a r:List UInt8),(∀x∈p,t x=v)->I a (p++r)=I (a++p) r
 |[],a,r,_=>oS
 |b::p,a,r,h=>by rw[T,I,h b oS];simp only[Y,if_false];rw[LP p (a++[b]) r (λx hx=>h x (Z _ hx))];simp
theorem PW(n:Int)(h:0<=n):∀x∈F n,t x=v:=by intro x hx;have:=FT n h x hx;simp only[t,Bool.or_eq_false_iff,beq_eq_false_iff_ne];refine⟨⟨⟨⟨⟨?_,?_⟩,?_⟩,?_⟩,?_⟩,?_⟩<;>(rintro rfl;revert this;decide)
theorem PV(n:Int):F n≠[]:=by
 unfold F;split
 ·simp
 ·obtain⟨c,r,h,-⟩:=Ii n.toNat;rw[h];simp
theorem Jd:∀(l:List Int),(∀z∈l,0<=z)->j (BC l)=l.map F
 |[],_=>by simp[BC,Lib.fields,Lib.fieldsGo]
 |[a],h0=>by have:=LP (F a) [] [] (PW a (h0 a oS));rw[List.append_nil]at this;simp only[BC,j,this,i,I,o,List.map_nil];rw[if_neg];simpa using PV a
 |a::b::l,h0=>by have h1:=LP (F a) [] (32::BC (b::l)) (PW a (h0 a oS));have d:=Jd (b::l) (λz c=>h0 z (Z _ c));rw[BC,j,h1,i,I,if_pos oD,if_neg (by simpa using PV a)];rw[o,<-d];rfl
theorem Fj(n:Int)(h0:-1<=n)(h1:n<=1000000000000000000):Lib.atoiAll (F n)=.ok n:=by
 rcases Int.lt_or_le n 0 with a|a
 ·obtain rfl:n=-1:=O;decide+kernel
 ·exact Kq n a h1
end Go.Proofs.YtgkcfpbndgfdlaaGreatDoor
