import Derived.Test.YtkkallehdijiaaaGreatDoorZQEnter
set_option linter.all false
set_option maxHeartbeats 0
set_option maxRecDepth 99999
open Go.IntKind renaming i64->F
open Go.Value renaming int->Z,string->I,pointer->E,tuple->ae,slice->af
open Go.Ending renaming returned->J
open Go.Proofs.Tryz renaming prog->G,ntmps117->aa,ntmps156->ab,func117->ac,func156->ad
open Bool renaming false->Y,and_eq_true->C,true->T
namespace Go.Proofs.YtkkallehdijiaaaGreatDoor
open Go.RowKit
variable{qo qT:Nat}{qcs:Array Value}
theorem NS{A:List Pl}(h:Fit A)(id:Int):B9 (AA A) id=B9 A id:=by unfold B9;exact(BB h).any_eq
theorem Ec{m:Mg}(h:right m=T):m.3.size<=1000000/\m.4.size<=1000000:=by simp only[right,C]at h;have a:=h.1.1.2;have b:=h.1.2;simp only[Cw,C,decide_eq_true_eq]at a b;omega
theorem Lf(Q:Nat)(v:Value)(A:List Pl)(m:Mg)(u:Int)(w:World)(f:PQG qo qT qcs w Q v (AA A))(j:A.length<=3000)(h:Fit A)(a:right m=T):Calls G 176 #[E (some ⟨Q,qo,none⟩),m.val,Z F u] w λe w'=>e=J (ae #[])/\(∃b,PQG qo qT qcs w' Q b (AA (A++[⟨m,u,Y⟩]))/\From w v b)/\Turned w w' Q v:=by refine(Sb Q v (AA A) m u w f (by rw[AX h];exact j) (IX A 10) (Ec a).1 (Ec a).2).mono ?_;rintro e w' ⟨rfl,⟨b,i,d,hq,c⟩,g⟩;refine⟨rfl,⟨b,?_,c⟩,g⟩;rw[Tq (e:=⟨m,u,Y⟩) (Ir a).1 (Ir a).2 d.1 d.2 d.3];exact hq
theorem Oj(Q:Nat)(v:Value)(A:List Pl)(m:Mg)(u:Int)(w:World)(x:PQG qo qT qcs w Q v (AA A))(N:A.length<=3000)(M:Fit A)(hm:m.ok):Calls G 117 #[E (some ⟨Q,qo,none⟩),m.val,Z F u] w λe w'=>e=J (Bb (FR A m))/\(∃v',PQG qo qT qcs w' Q v' (AA (Fr A m u))/\From w v v')/\Turned w w' Q v:=by
 have HQ:=Aa x;have f:=(Below.refl w.1.size w).alloc (Nat.le_refl _) (.cells #[Z F m.1,Z F m.2,I m.3,I m.4,Z F m.5] 95);have R:Hid (∀W,Below w.1.size w W->Calls G 175 #[E (some ⟨Q,qo,none⟩),m.val] W λe w'=>e=J (Bb (EO (AA A) m))/\Below W.1.size W w'):=Aa λW H=>NQ Q v (AA A) m W (x.below H) (by rw[AX M];exact N) hm;have q:Hid (∀W,Below w.1.size w W->right m=T->Calls G 176 #[E (some ⟨Q,qo,none⟩),m.val,Z F u] W λe w'=>e=J (ae #[])/\(∃v',PQG qo qT qcs w' Q v' (AA (A++[⟨m,u,Y⟩]))/\From W v v')/\Turned W w' Q v):=Aa λW H k=>Lf Q v A m u W (x.below H) N M k;have g:=Aa (AX M);have p:=Aa (NS M m.1);obtain⟨a,t,rfl⟩:=Ar x.3;have HC:Hid (∀W,Below w.1.size w W->W.cell? ⟨Q,qo,none⟩=some (af a (AA A).length t)):=Aa λW H=>(x.below H).cell;have a1:=x.lt;obtain⟨n,Hn⟩:∃n,Hid ((AA A).length=n):=⟨_,rfl⟩;rw[Hn.o]at HC g;have hn:n<=3000:=by rw[g.o];exact N
 have r:Hid (MB (w.alloc (.cells #[Z F m.1,Z F m.2,I m.3,I m.4,Z F m.5] 95)) w.1.size m):=Aa (heap_alloc_new w _);obtain⟨W0,X⟩:∃W0,w.alloc (.cells #[Z F m.1,Z F m.2,I m.3,I m.4,Z F m.5] 95)=W0:=⟨_,rfl⟩;rw[X]at f r;obtain⟨r0,r1,r2,r3,r4⟩:=r.o.cells;have Hl:=Aa N;clear x M hm N;by_cases d:EO (AA A) m=0
 ·have k:right m=T:=by
   unfold EO at d;split at d
   ·assumption
   ·cases d
  have y:B9 (AA A) m.1=Y:=by
   unfold EO at d;rw[if_pos k]at d;cases hq:B9 (AA A) m.1 with
   |false=>rfl
   |true=>rw[hq,if_pos rfl]at d;cases d
  have D:Hid (B9 A m.1=Y):=Aa (by rw[<-p.o];exact y);have U:=Aa k;have c:=Aa ((R.o W0 f).mono λe w' h=>by rw[d]at h;exact h);have j:Hid (Bb 0=.nilIface):=rfl;rw[j.o]at c;simp only[Mg.val]at c q⊢;clear d k y;go_enter ac,aa;go_wp2_with(go_at_call 175;go_must(refine c.o.mono ?_);rintro e w1 ⟨rfl,i⟩;refine Hid.out ?_);refine Aa ?_;have b:=Ab f f.4 i;have cQ:=HC.o w1 b;have B:=Aa (q.o w1 b U.o);have s:=r.o.below i;obtain⟨t0,t1,t2,t3,t4⟩:=s.cells;have s:=Aa s;clear i;by_cases a0:20<=n
  ·have l:Hid (FR A m=12):=Aa (by unfold FR;rw[if_pos U.o,D.o,if_neg oS,if_pos (by have:=g.o;omega)]);have z:Hid (Fr A m u=A):=Aa (by unfold Fr;rw[l.o,if_neg O]);go_wp2;go_ret;refine⟨by rw[l.o];rfl,⟨af a (AA A).length t,?_,From.refl _ _⟩,Turned.of_below b⟩;rw[z.o];exact HQ.o.below b
  ·have l:Hid (FR A m=0):=Aa (by unfold FR;rw[if_pos U.o,D.o,if_neg oS,if_neg (by have:=g.o;omega)]);have z:Hid (Fr A m u=A++[⟨m,u,Y⟩]):=Aa (by unfold Fr;rw[l.o,if_pos rfl]);go_wp2_with(go_at_call 176;go_must(refine B.o.mono ?_);rintro e w2 ⟨rfl,P,L⟩;refine Hid.out ?_);refine Aa ?_;have S:=Aa (P.imp λ_ h=>And.intro h.1 (h.2.back b.4));have V:=Aa (L.from_below b);clear P L;go_wp2;go_ret;refine⟨by rw[l.o];rfl,?_,V.o⟩;rw[z.o];exact S.o
 ·have l:Hid (FR A m=EO (AA A) m):=Aa (by
   unfold FR EO at*;rw[p.o]at d⊢;by_cases k:right m=T
   ·rw[if_pos k,if_pos k];rw[if_pos k]at d;by_cases y:B9 A m.1=T
    ·rw[if_pos y,if_pos y]
    ·rw[if_neg y]at d;exact absurd rfl d
   ·rw[if_neg k,if_neg k]);have z:Hid (Fr A m u=A):=Aa (by unfold Fr;rw[l.o,if_neg d]);have c:=Aa (R.o W0 f);have j:Hid (Bb (EO (AA A) m)=.iface 25 (Z F (EO (AA A) m))):=Aa (by unfold Bb;rw[if_neg d]);rw[j.o]at c;generalize EO (AA A) m=fe at c j l;simp only[Mg.val]at c⊢;clear d R q;go_enter ac,aa;go_wp2_with(go_at_call 175;go_must(refine c.o.mono ?_);rintro e w1 ⟨rfl,i⟩;refine Hid.out ?_);refine Aa ?_;have b:=Ab f f.4 i;clear i;go_wp2;go_ret;refine⟨by rw[l.o,j.o];rfl,⟨af a (AA A).length t,?_,From.refl _ _⟩,Turned.of_below b⟩;rw[z.o];exact HQ.o.below b
def AP(A:List Pl)(m:Mg)(u:Int):List Pl:=if right m=T/\B9 A m.1=Y then A++[⟨m,u,Y⟩]else A
theorem Lh{A:List Pl}{m:Mg}:EO A m=0↔right m=T/\B9 A m.1=Y:=by unfold EO;cases hr:right m<;>cases hh:B9 A m.1<;>simp
theorem LG(Q:Nat)(v:Value)(A:List Pl)(m:Mg)(u:Int)(w:World)(s:PQG qo qT qcs w Q v (AA A))(H:A.length<=3000)(t:Fit A)(L:m.ok):Calls G 156 #[E (some ⟨Q,qo,none⟩),m.val,Z F u] w λe w'=>e=J (ae #[])/\(∃v',PQG qo qT qcs w' Q v' (AA (AP A m u))/\From w v v')/\Turned w w' Q v:=by
 have HQ:=Aa s;have b:=(Below.refl w.1.size w).alloc (Nat.le_refl _) (.cells #[Z F m.1,Z F m.2,I m.3,I m.4,Z F m.5] 95);have r:Hid (∀W,Below w.1.size w W->Calls G 175 #[E (some ⟨Q,qo,none⟩),m.val] W λe w'=>e=J (Bb (EO (AA A) m))/\Below W.1.size W w'):=Aa λW B=>NQ Q v (AA A) m W (s.below B) (by rw[AX t];exact H) L;have j:Hid (∀W,Below w.1.size w W->right m=T->Calls G 176 #[E (some ⟨Q,qo,none⟩),m.val,Z F u] W λe w'=>e=J (ae #[])/\(∃v',PQG qo qT qcs w' Q v' (AA (A++[⟨m,u,Y⟩]))/\From W v v')/\Turned W w' Q v):=Aa λW B N=>Lf Q v A m u W (s.below B) H t N;have i:=Aa (NS t m.1);have k:Hid (MB (w.alloc (.cells #[Z F m.1,Z F m.2,I m.3,I m.4,Z F m.5] 95)) w.1.size m):=Aa (heap_alloc_new w _);obtain⟨W0,D⟩:∃W0,w.alloc (.cells #[Z F m.1,Z F m.2,I m.3,I m.4,Z F m.5] 95)=W0:=⟨_,rfl⟩;rw[D]at b k;obtain⟨P,R,S,U,V⟩:=k.o.cells;clear s t L H;by_cases l:EO (AA A) m=0
 ·have g:=Lh.1 l;rw[i.o]at g;have x:Hid (AP A m u=A++[⟨m,u,Y⟩]):=Aa (by unfold AP;rw[if_pos g]);have M:=Aa g.1;have a:=Aa ((r.o W0 b).mono λe w' h=>by rw[l]at h;exact h);have f:Hid (Bb 0=.nilIface):=rfl;rw[f.o]at a;simp only[Mg.val]at a j⊢;clear l g r;go_enter ad,ab;go_wp2_with(go_at_call 175;go_must(refine a.o.mono ?_);rintro e w1 ⟨rfl,c⟩;refine Hid.out ?_);refine Aa ?_;have d:=Ab b b.4 c;have n:=Aa (j.o w1 d M.o);obtain⟨t0,X,t2,t3,t4⟩:=(k.o.below c).cells;clear c;go_wp2_with(go_at_call 176;go_must(refine n.o.mono ?_);rintro e w2 ⟨rfl,q,p⟩;refine Hid.out ?_);refine Aa ?_;have y:=Aa (q.imp λ_ h=>And.intro h.1 (h.2.back d.4));have z:=Aa (p.from_below d);clear q p;go_wp2;go_end0;refine⟨rfl,?_,z.o⟩;rw[x.o];exact y.o
 ·have x:Hid (AP A m u=A):=Aa (by unfold AP;rw[if_neg];intro h;rw[<-i.o]at h;exact l (Lh.2 h));have a:=Aa (r.o W0 b);have f:Hid (Bb (EO (AA A) m)=.iface 25 (Z F (EO (AA A) m))):=Aa (by unfold Bb;rw[if_neg l]);rw[f.o]at a;generalize EO (AA A) m=fe at a f;simp only[Mg.val]at a⊢;clear l r j;go_enter ad,ab;go_wp2_with(go_at_call 175;go_must(refine a.o.mono ?_);rintro e w1 ⟨rfl,c⟩;refine Hid.out ?_);refine Aa ?_;have d:=Ab b b.4 c;clear c;go_wp2;go_end0;refine⟨rfl,⟨v,?_,From.refl _ _⟩,Turned.of_below d⟩;rw[x.o];exact HQ.o.below d
end Go.Proofs.YtkkallehdijiaaaGreatDoor
