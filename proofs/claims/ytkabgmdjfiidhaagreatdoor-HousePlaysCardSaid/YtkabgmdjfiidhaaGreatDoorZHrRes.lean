import Derived.Test.YtkabgmdjfiidhaaGreatDoorZHpWd
import Derived.Deep.LoopGhost
set_option maxHeartbeats 0
set_option maxRecDepth 99999
open Go.Proofs.Tryz renaming prog->F,underlying246->J,underlying9->E
open Bool renaming and_eq_true->Z,false->G,true->C
open Go renaming maxLen->I,World->Y,Value->T
namespace Go.Proofs.YtkabgmdjfiidhaaGreatDoor
open Go.RowKit Go.Maps
variable{ro rT:Nat}{rcs:Array T}
def EU(v:Value):Option (DataW Unit×List MemPlace):=match v with
 |.bool b=>some (.lit (.bool b),[])
 |_=>none
theorem K7{v:T}{b:Bool}{ps:List MemPlace}(h:EU v=some (.lit (.bool b),ps)):v=.bool b:=by
 unfold EU at h;split at h
 ·injection h with h;injection h with h1 h2;injection h1 with h1;injection h1 with h1;rw[h1]
 ·cases h
theorem Qb(w:Y):(zeroValue 4).run F w=.ok (.bool G) w:=K
def Gq(V:List ByteArray)(s:ByteArray):Bool:=V.any λv=>decide (v=s)
theorem Nk{V:List ByteArray}{s:ByteArray}(h:s∈V):Gq V s=C:=by unfold Gq;rw[List.any_eq_true];exact⟨s,h,oS⟩
theorem R1{V:List ByteArray}{s:ByteArray}(h:s∉V):Gq V s=G:=by unfold Gq;rw[List.any_eq_false];intro v a;simp only[decide_eq_true_eq];exact λe=>h (e▸a)
def SeenIs(w:Y)(B n:Nat)(V:List ByteArray):Prop:=∃D:DataW Unit,w.ownsMap F 9 EU B n D/\∀s:ByteArray,D.atKey (.string s.1.1) (.lit (.bool G))=.lit (.bool (Gq V s))
theorem SeenIs.made(w:Y):SeenIs (w.alloc (.map #[] 0)) w.1.size 0 []:=⟨.map [],World.ownsMap_made w F 9 EU,λ_s=>rfl⟩
theorem SeenIs.below{w w':Y}{B n:Nat}{V:List ByteArray}(h:SeenIs w B n V)(a:Below w.1.size w w'):SeenIs w' B n V:=by obtain⟨D,b,c⟩:=h;exact⟨D,b.kept (row:=none) ⟨a.1,a.2,a.3,a.4,λk d _=>a.5 k d⟩ oS,c⟩
theorem SeenIs.look{w:Y}{B n:Nat}{V:List ByteArray}(h:SeenIs w B n V)(s:ByteArray)(e:s.size<=I):(Instr.lookup 246 (.map (some B)) (.string s) G).run F w=.ok (.bool (Gq V s)) w:=by obtain⟨D,c,d⟩:=h;obtain⟨v,ps,a,b⟩:=c.lookup Ec J (Qb w) (zd:=.lit (.bool G)) rfl (WideMaps.keyOf_string_mk E e);rw[d s]at b;rw[a,K7 b]
theorem SeenIs.put{w:Y}{B n:Nat}{V:List ByteArray}(h:SeenIs w B n V)(k:n<I)(s:ByteArray)(l:s.size<=I):∃w',(Instr.mapUpdate 246 (.map (some B)) (.string s) (.bool C)).run F w=.ok () w'/\SeenIs w' B (n+1) (s::V)/\w.grownBy w' (some B):=by
 obtain⟨D,c,f⟩:=h;obtain⟨w',a,hown,i⟩:=c.update Ec J k (WideMaps.keyOf_string_mk E l) (show EU (.bool C)=some (.lit (.bool C),[])from rfl);refine⟨w',a,⟨_,hown,λq=>?_⟩,i⟩;by_cases e:q=s
 ·subst e;have g:IsMap D:=c.isMap;have j:WideAt.IsKeyLit (.string q.1.1):=trivial;rw[atKey_put_same g j,Nk (List.mem_cons_self)]
 ·have b:(Lit.string q.1.1)≠.string s.1.1:=λd=>e (ByteArray.ext (Array.toList_inj.1 (by injection d)));rw[atKey_put_other b,f q];have:decide (s=q)=G:=by simpa using λh=>e h.symm
  simp[Gq,this]
def Uq:Y2->T
 |.ok t k=>.tuple #[.string t,.int .i64 k,.int .i64 0]
 |.miss=>.tuple #[.string ⟨#[]⟩,.int .i64 0,.int .i64 7]
 |.round=>.tuple #[.string ⟨#[]⟩,.int .i64 0,.int .i64 11]
theorem Kz{x:Nm}(h:AM x=C):x.own=x.2.toList.isEmpty:=by
 simp only[AM,Z,Bool.or_eq_true]at h;rcases h.2 with a|a
 ·rw[a];simp only[Nm.own,Z]at a;exact a.1.symm
 ·have:x.2.toList.isEmpty=G:=by
   cases hb:x.2.toList.isEmpty with
   |false=>rfl
   |true=>
    simp only[Bm,Z,decide_eq_true_eq]at a;rw[List.isEmpty_iff,ByteArray.toList_eq]at hb;have b:x.2.1.1.length=0:=by rw[hb];rfl
    simp at b;have:x.2.size=0:=by simp[ByteArray.size,b]
    omega
  rw[this];simp[Nm.own,this]
theorem Jv(R:Nat)(v:T)(ls:List Nm)(s:ByteArray)(w:Y)(S:RefN ro rT rcs w R v ls)(hl:ls.length<=1000)(U:∀x∈ls,AM x=C)(X:s.size<=I):Calls F 129 #[.pointer (some ⟨R,ro,none⟩),.string s] w λe w'=>e=.returned (Uq (A9 ls s))/\Below w.1.size w w':=by
 have HO:Hid (∀q W,Below w.1.size w W->Calls F 117 #[.pointer (some ⟨R,ro,none⟩),.string q] W λe w'=>e=.returned (.tuple #[(Sz (AK ls q)).val,.bool (AK ls q).isSome])/\Below W.1.size W w'):=Aa λq W u=>LC R v ls q W (S.below u) hl;have HR:=Aa U;clear S U;have a2:=@run_makeMap F;go_enter Tryz.func129,Tryz.ntmps129;go_wp2;go_loopg[1] (ls.length+1) (λgk s1 wr=>∃(q:ByteArray) (V:List ByteArray),s1=.string q/\q.size<=I/\WP ls V q/\A9 ls q=A9 ls s/\SeenIs wr w.1.size V.length V/\Below w.1.size w wr/\V.length+gk=ls.length+1);case atStart=>exact⟨s,[],rfl,X,Wy _ _,rfl,SeenIs.made w,(Below.refl _ _).alloc (Nat.le_refl _) _,oS⟩
 case round=>
  obtain⟨q,V,rfl,hq,l,A,f,u,a1⟩:=hrel;have k1:=f.look q hq;have a0:=JM l;obtain⟨W2,k2,g,y⟩:=f.put (by unfold I;omega) q hq;have Q:=Aa l;have i:=Aa A;have M:=Aa g;have j:=u.grown y u.4 (λc hc=>by cases hc;exact Nat.le_refl _);clear l A f g y X;by_cases h:q∈V
  ·have P:Gq V q=C:=Nk h;rw[P]at k1;have m:Hid (A9 ls s=.round):=by rw[<-i.o];exact Aa (Nt Q.o h)
   go_wp2;go_ret3;exact⟨by rw[m.o];rfl,u⟩
  ·have P:Gq V q=G:=R1 h;rw[P]at k1;have L:=Aa h;have d:=Aa (HO.o q W2 j);cases hlk:AK ls q with
   |none=>
    rw[hlk]at d;have m:Hid (A9 ls s=.miss):=by rw[<-i.o];exact Aa (OX hlk)
    clear hlk h;simp only[Sz,Option.getD_none,Option.isSome_none,zeroNm,Nm.val]at d;go_wp2_with(go_at_call 117;go_must(refine d.o.mono ?_);rintro e w3 ⟨rfl,k⟩;refine Hid.out ?_);refine Aa ?_;have a:=Ab j j.4 k;go_wp2;go_ret3;exact⟨by rw[m.o];rfl,a.alloc a.4 _⟩
   |some x=>
    rw[hlk]at d;have n:=Aa hlk;have r:=HR.o x (Ej hlk).2;have z:=CC r;have b:=Aa (Kz r);have p:=Aa (Ej hlk).1;clear hlk h r;obtain⟨xn,D,H⟩:=x;simp only[Sz,Option.getD_some,Option.isSome_some,Nm.val]at d b p z;go_wp2_with(go_at_call 117;go_must(refine d.o.mono ?_);rintro e w3 ⟨rfl,k⟩;refine Hid.out ?_);refine Aa ?_;have a:=Ab j j.4 k;have N:=Aa (M.o.below k);clear k d;cases he:D.toList.isEmpty
    ·rw[he]at b;by_cases hh:0<=H
     ·have m:Hid (A9 ls s=.ok D H):=by rw[<-i.o];exact Aa (Sc n.o b.o hh)
      go_wp2;go_quiet(fail);go_wp2;go_ret3;exact⟨by rw[m.o];rfl,AY (a.alloc a.4 _) _⟩
     ·have m:Hid (A9 ls D=A9 ls s):=by rw[<-i.o];exact Aa (OW n.o b.o (by show H<0;omega)).symm
      have t:Hid (WP ls (q::V) D):=Aa (U0 Q.o L.o n.o b.o (by show H<0;omega));have B:=JM t.o;go_wp2
      go_roundg (ls.length-V.length)
      case measure=>simp at B;omega
      case rel=>refine⟨D,q::V,rfl,by have:=z.2;unfold I;omega,t.o,m.o,N.o.below ((Below.refl _ _).alloc (Nat.le_refl _) _),a.alloc a.4 _,?_⟩;simp at B⊢;omega
    ·rw[he]at b;have m:Hid (A9 ls s=.ok q (-1)):=by rw[<-i.o,<-p.o];have:=Sd n.o b.o;rw[<-p.o]at this;exact Aa this
     go_wp2;go_ret3;exact⟨by rw[m.o];rfl,a.alloc a.4 _⟩
end Go.Proofs.YtkabgmdjfiidhaaGreatDoor
