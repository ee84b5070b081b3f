import Derived.Test.YtkkallehdijiaaaGreatDoorZBackMath
import Derived.Test.YtkkallehdijiaaaGreatDoorZNmMap
import Derived.Lib.IndexMore
import Derived.Lib.Fields
set_option linter.all false
open Go.Lib renaming itoa->F,fieldsGo->I,fields->o,isSp->u,index->v,cut->y
open List renaming mem_cons_of_mem->Z,mem_cons->J,mem_append->E,cons_append->T,not_mem_nil->i,nil_append->j,map_cons->t
open Bool renaming and_eq_true->G,false_eq_true->Y,true->C,false->w
namespace Go.Proofs.YtkkallehdijiaaaGreatDoor
open Go.RowKit
theorem Ln(c:UInt8)(r:List UInt8):∀(p:List UInt8),c∉p->v (p++c::r) [c]=(p.length:Int)
 |[],_=>by simp[Lib.index]
 |b::l,h=>by
  have a:c≠b:=λe=>h (by simp[e]);have g:=Ln c r l (λd=>h (by simp[d]));have f:([c]:List UInt8).isPrefixOf (b::(l++c::r))=w:=by simp[List.isPrefixOf,a]
  rw[T,v,f,g];simp only[Y,if_false,List.length_cons];rw[if_neg oS];simp
theorem XJ(c:UInt8)(p r:List UInt8)(h:c∉p):y (p++c::r) [c]=(p,r,C):=by unfold y;rw[Ln c r p h];simp
structure Ch where
 kind:Int
 name:Nm
 house:Int
 ids:List Int
 queued:List Mg
 dead:List Mg
 waits:List Mg
def BI:List Int->List UInt8
 |[]=>[]
 |[a]=>Lib.itoa a
 |a::b::l=>Lib.itoa a++32::BI (b::l)
def Ch.text(c:Ch):List UInt8:=F c.1++58::(c.2.1.1.1++58::(c.2.2.1.1++58::(F c.2.3++58::(F c.3++58::(BI c.4++58::(Ay c.5++58::(Ay c.6++58::(Ay c.7++58::[10]))))))))
structure Ch.ok(c:Ch):Prop where
 okKind:0<=c.1/\c.1<=5
 okName:∀x∈c.2.1.1.1,x≠58/\x≠10
 okTo:∀x∈c.2.2.1.1,x≠58/\x≠10
 sz:c.2.1.size<=3000/\c.2.2.size<=3000
 nh:-1<=c.2.3/\c.2.3<=3
 okHouse:0<=c.3/\c.3<=3
 okIds:∀z∈c.4,0<=z/\z<=1099511627776
 few:c.4.length<=3000/\c.5.length<=3000/\c.6.length<=3000/\c.7.length<=3000
 okAll:(∀m∈c.5,right m=C)/\(∀m∈c.6,right m=C)/\(∀m∈c.7,right m=C)
theorem CA(n:Int)(h:-1<=n):∀x∈F n,x≠58/\x≠10/\x≠43/\x.toNat<128/\x≠32:=by
 rcases Int.lt_or_le n 0 with a|a
 ·obtain rfl:n=-1:=O;intro x hx;have:F (-1)=[45,49]:=by decide+kernel
  rw[this]at hx;simp only[J,i,or_false]at hx;rcases hx with rfl|rfl<;>decide
 ·intro x hx;have:=F9 n a x hx;refine⟨?_,?_,?_,O,?_⟩<;>(rintro rfl;revert this;decide)
theorem ER(s:ByteArray)(k:Int)(h:Cw s k=C):∀x∈s.1.1,x≠58/\x≠10:=by intro x hx;simp only[Cw,G]at h;have a:=List.all_eq_true.1 h.2 x hx;simp only[Ic,Bool.or_eq_true,G,decide_eq_true_eq]at a;refine⟨?_,?_⟩<;>(rintro rfl;revert a;decide)
theorem Qd(m:Mg)(h:right m=C):Cw m.3 12=C/\Cw m.4 8=C:=by simp only[right,G]at h;exact⟨h.1.1.2,h.1.2⟩
theorem OX(m:Mg)(h:right m=C):∀x∈BT m,x≠58/\x≠10:=by
 obtain⟨b,c,d,-,-⟩:=A5 m h;obtain⟨l1,a⟩:=Qd m h;intro x hx;simp only[BT,E,J,i,or_false]at hx;rcases hx with(((((((hx|hx)|hx)|hx)|hx)|hx)|hx)|hx)|hx
 ·have:=CA m.1 O x hx;exact⟨this.1,this.2.1⟩
 ·subst hx;decide
 ·have:=CA m.2 O x hx;exact⟨this.1,this.2.1⟩
 ·subst hx;decide
 ·exact ER _ _ l1 x hx
 ·subst hx;decide
 ·exact ER _ _ a x hx
 ·subst hx;decide
 ·have:=CA m.5 O x hx;exact⟨this.1,this.2.1⟩
theorem join_mem(c:UInt8):∀(ps:List (List UInt8)) (x:UInt8),x∈Fk c ps->x=c\/∃p∈ps,x∈p
 |[],x,h=>by simp[Fk]at h
 |[p],x,h=>.inr ⟨p,oS,by simpa[Fk]using h⟩
 |p::q::r,x,h=>by
  have e:Fk c (p::q::r)=p++c::Fk c (q::r):=rfl;rw[e,E,J]at h;rcases h with h|h|h
  ·exact .inr ⟨p,oS,h⟩
  ·exact .inl h
  ·rcases join_mem c (q::r) x h with h|⟨b,a,hx⟩
   ·exact .inl h
   ·exact .inr ⟨b,Z _ a,hx⟩
theorem E2(ms:List Mg)(h:∀m∈ms,right m=C):∀x∈Ay ms,x≠58/\x≠10:=by
 intro x hx;rw[Mb]at hx;rcases join_mem 43 _ x hx with rfl|⟨p,b,hx⟩
 ·decide
 ·obtain⟨m,a,rfl⟩:=List.mem_map.1 b;exact OX m (h m a) x hx
theorem ET:∀(l:List Int),(∀z∈l,0<=z)->∀x∈BI l,x≠58/\x≠10/\x.toNat<128
 |[],_,x,h=>by simp[BI]at h
 |[a],h0,x,h=>by have:=CA a (by have:=h0 a oS;omega) x h;exact⟨this.1,this.2.1,this.2.2.2.1⟩
 |a::b::l,h0,x,h=>by
  rw[BI,E,J]at h;rcases h with h|rfl|h
  ·have:=CA a (by have:=h0 a oS;omega) x h;exact⟨this.1,this.2.1,this.2.2.2.1⟩
  ·decide
  ·exact ET (b::l) (λz c=>h0 z (Z _ c)) x h
theorem MI:∀(p cur r:List UInt8),(∀x∈p,u x=w)->I cur (p++r)=I (cur++p) r
 |[],cur,r,_=>oS
 |b::p,cur,r,h=>by rw[T,I,h b oS];simp only[Y,if_false];rw[MI p (cur++[b]) r (λx hx=>h x (Z _ hx))];simp
theorem Q3(n:Int)(h:0<=n):∀x∈F n,u x=w:=by intro x hx;have:=F9 n h x hx;simp only[u,Bool.or_eq_false_iff,beq_eq_false_iff_ne];refine⟨⟨⟨⟨⟨?_,?_⟩,?_⟩,?_⟩,?_⟩,?_⟩<;>(rintro rfl;revert this;decide)
theorem Q2(n:Int):F n≠[]:=by
 unfold F;split
 ·simp
 ·obtain⟨c,r,h,-⟩:=IH n.toNat;rw[h];simp
theorem JK:∀(l:List Int),(∀z∈l,0<=z)->o (BI l)=l.map F
 |[],_=>by simp[BI,Lib.fields,Lib.fieldsGo]
 |[a],h0=>by have:=MI (F a) [] [] (Q3 a (h0 a oS));rw[List.append_nil]at this;simp only[BI,o,this,j,I,t,List.map_nil];rw[if_neg];simpa using Q2 a
 |a::b::l,h0=>by have c:=MI (F a) [] (32::BI (b::l)) (Q3 a (h0 a oS));have e:=JK (b::l) (λz d=>h0 z (Z _ d));rw[BI,o,c,j,I,if_pos oD,if_neg (by simpa using Q2 a)];rw[t,<-e];rfl
theorem Fz(n:Int)(c:-1<=n)(b:n<=1000000000000000000):Lib.atoiAll (F n)=.ok n:=by
 rcases Int.lt_or_le n 0 with a|a
 ·obtain rfl:n=-1:=O;decide+kernel
 ·exact K9 n a b
end Go.Proofs.YtkkallehdijiaaaGreatDoor
