import Derived.Test.YtgkcfpbndgfdlaaGreatDoorZWOr1
set_option linter.all false
open Classical renaming propDecidable->F
open Int renaming le_refl->Z,toNat_natCast->ag
open Sum renaming inr->I,inl->ae
open Option.some renaming inj->J
open Option renaming some->G
open List renaming filter_eq_self->E,filter_congr->Y,append_nil->aa,mem_append->ab,mem_map->ac,length_append->ad,append_assoc->ah,filter_eq_nil_iff->ai,length_map->aj,length_singleton->ak,mem_cons_of_mem->al,mem_of_getElem?->am,mem_cons_self->ao,map_map->ap,pairwise_map->aq,filter_map->au,length_nil->av,map_nil->aw
open Nat renaming le_refl->af,mod_lt->an
namespace Go.Proofs.YtgkcfpbndgfdlaaGreatDoor
section
open Go.RowKit Go.Maps
section
variable{far k i p:Nat}{c c':Int}{h h' g g':HW}{R R':Nat->List Int}
theorem OH1.no(o:OH1 far c h){b:Ch}{rs':D3}{ns':List Nm}{m:Nat}(e:CE h≠0):OH1 far c (h.wr b rs' ns' m):=by
 by_cases a:CE h=14
 ·rw[HW.wr_torn a];exact o.keep rfl rfl rfl rfl rfl rfl rfl
 ·rw[HW.wr_no e a];exact o
theorem OH1.did(o:OH1 far c h)(h0:HOk h k i p){u:Nat}(f:u<5){d:Dd}(b:d∈h.1.2 u):d.1=true/\d.3=I far/\(⟨d.m,(u:Int),false⟩:Pl)∈h.1.Q (I far):=by
 cases hp:d.1 with
 |false=>obtain⟨q,-,a⟩:=h0.1.q.7 u d f b hp;have:=(o.here q _ a).2.1;cases this
 |true=>
  obtain⟨-,a,-⟩:=h0.1.q.6 u d f b hp;refine⟨rfl,?_⟩;cases hl:d.3 with
  |inl q=>rw[hl]at a;have:=(o.here q _ a).1;simp only at this;omega
  |inr j=>
   rw[hl]at a;by_cases e:j=far
   ·subst e;exact⟨rfl,a⟩
   ·rw[(o.ways j e).1]at a;cases a
theorem OH1.noTakes(o:OH1 far c h)(h0:HOk h k i p){u:Nat}(b:u<5)(l:DM):D1 l (h.1.2 u)=[]:=by unfold D1;rw[ai.2,aw];intro d a;rw[(o.did h0 b a).1];simp
theorem OH1.putsAt_no(o:OH1 far c h)(h0:HOk h k i p){u:Nat}(e:u<5){l:DM}(b:l≠I far):D6 l (h.1.2 u)=[]:=by unfold D6;rw[ai.2,aw];intro d a;rw[(o.did h0 e a).2.1];simp;exact λ_ q=>b q.symm
theorem OH1.putsAt_far(o:OH1 far c h)(h0:HOk h k i p){u:Nat}(b:u<5):D6 (I far) (h.1.2 u)=(Aj (h.1.2 u)).map fr:=by rw[EF];congr 2;exact E.2 (λd a=>by simp[(o.did h0 b a).2.1])
theorem OH1.put(o:OH1 far c h)(h0:HOk h k i p)(t:far≠k){u:Nat}(w:u<5){q:ByteArray}{pri:Int}{b:ByteArray}{z:Int}(hm:h.putM q pri b=⟨z,pri,b,FB,(far:Int)⟩)(hc:c+1<=c'):OH1 far c' (h.put u q pri b):=by
 have f:=UC h u q pri b;have a:∀l,Ap ((h.put u q pri b).1.Q l)=Ap (h.1.Q l):=f.q;unfold HW.put at f a⊢;split
 ·rename_i e;rw[if_pos e]at f a;rw[hm]at f a⊢;have d:A9 h.1.3 ⟨z,pri,b,FB,(far:Int)⟩=I far:=by unfold A9;rw[h0.2,if_neg (by show¬(far:Int)=(k:Int);omega)];simp
  have m:(RC h.1 u ⟨z,pri,b,FB,(far:Int)⟩).Q=AU h.1.Q (I far) (h.1.Q (I far)++[⟨⟨z,pri,b,FB,(far:Int)⟩,(u:Int),false⟩]):=by unfold RC;rw[d]
  refine⟨?_,λj hj=>?_,λx hx=>?_,λv x hx=>?_,?_,?_⟩
  ·have:=o.cnt;show h.1.4+1<=c';omega
  ·obtain⟨n,a2,a3⟩:=o.ways j hj;refine⟨?_,a2,a3⟩;show(RC h.1 u _).Q (I j)=[];rw[m,BB _ _ (λq=>hj (Sum.inr.inj q))];exact n
  ·have hx:x∈(RC h.1 u ⟨z,pri,b,FB,(far:Int)⟩).Q (I far):=hx;rw[m,Dx,ab]at hx;rcases hx with hx|hx
   ·exact o.wait x hx
   ·obtain rfl:=List.mem_singleton.1 hx;exact⟨rfl,rfl,rfl⟩
  ·have hx:x∈(RC h.1 u ⟨z,pri,b,FB,(far:Int)⟩).Q (ae v):=hx;rw[m,BB _ _ oS]at hx;exact o.here v x hx
  ·rw[a];exact o.pre
  ·have r:=Q0s (h:=h) (h':={h with rs:=RC h.1 u ⟨z,pri,b,FB,(far:Int)⟩,N:=h.N+1}) w rfl;rw[ad,ak]at r;have:=o.len;have s:J4 {h with rs:=RC h.1 u ⟨z,pri,b,FB,(far:Int)⟩,N:=h.N+1}=J4 h:=rfl;show(h.4.length:Int)+Q0c _+(if h.1.6 far=[]then 0 else 1)<=3+c'+2*h.1.7 far+J4 _;rw[s];omega
 ·exact(o.more O).keep rfl rfl rfl rfl rfl rfl rfl
theorem Q0I{u:Nat}{x:Pl}(h:x.t=false):(B8 u x).t=false:=by
 unfold B8;split
 ·rfl
 ·exact h
theorem OH1.back(o:OH1 far c h){u:Nat}(l:u<5):OH1 far c (h.back u):=by
 have b:=RQ h u;unfold HW.back at b⊢;split
 ·rename_i e;rw[if_pos e]at b;refine⟨o.cnt,λj hj=>?_,λx hx=>?_,λv x hx=>?_,?_,?_⟩
  ·obtain⟨a,a2,a3⟩:=o.ways j hj;refine⟨?_,a2,a3⟩;show AN u true (h.1.Q (I j))=[];rw[a];unfold AN;split<;>rfl
  ·obtain⟨y,d,-,rfl⟩:=Br.1 (show x∈AN u true (h.1.Q (I far))from hx);obtain⟨a,a2,a3⟩:=o.wait y d;rw[BY];exact⟨Q0I a,a2,a3⟩
  ·obtain⟨y,d,-,rfl⟩:=Br.1 (show x∈AN u true (h.1.Q (ae v))from hx);obtain⟨a,a2,a3⟩:=o.here v y d;rw[CU (by rw[a];omega)];exact⟨a,a2,a3⟩
  ·rw[b.q,b.3];exact o.pre
  ·have f:=Q0s (h:=h) (h':={h with rs:=FE h.1 u}) l rfl;have:=o.len;show(h.4.length:Int)+Q0c _+(if h.1.6 far=[]then 0 else 1)<=3+c+2*h.1.7 far+J4 h;rw[av]at f;omega
 ·exact o
theorem OH1.anew(o:OH1 far c h)(h0:HOk h k i p)(H:Nat):OH1 far c ((h.cut (-1)).anew H):=by
 refine⟨?_,λj hj=>?_,λx hx=>?_,λv x hx=>?_,?_,?_⟩
 ·have:=o.cnt;have:=h0.1.bn;show h.1.5<=c;omega
 ·obtain⟨b,a2,a3⟩:=o.ways j hj;refine⟨?_,a2,a3⟩;show Ap (h.1.Q (I j))=[];rw[b];rfl
 ·obtain⟨y,a,-,rfl⟩:=A7.1 (show x∈Ap (h.1.Q (I far))from hx);obtain⟨-,a2,a3⟩:=o.wait y a;exact⟨rfl,a2,a3⟩
 ·obtain⟨y,a,-,rfl⟩:=A7.1 (show x∈Ap (h.1.Q (ae v))from hx);obtain⟨-,-,a3⟩:=o.here v y a;exact⟨rfl,rfl,a3⟩
 ·show Q0z (Ap (Ap (h.1.Q (I far)))) (h.1.6 far);rw[IY];exact o.pre
 ·have:=o.len;have e:Q0c ((h.cut (-1)).anew H)=0:=rfl;have d:0<=Q0c h:=by unfold Q0c;omega
  rw[e];show(h.4.length:Int)+0+(if h.1.6 far=[]then 0 else 1)<=3+c+2*h.1.7 far+J4 h;omega
theorem OH1.bareO(o:OH1 far c h)(h0:HOk h k i p){u:Nat}(a:u<5)(l:DM):Ap ((I6 h.1 u).Q l)=Ap (h.1.Q l)++D6 l (h.1.2 u):=by show Ap (BZ h.1.Q u (h.1.2 u) l)=_;rw[D8,o.noTakes h0 a];rfl
theorem OH1.doubtO(o:OH1 far c h)(h0:HOk h k i p){u:Nat}(f:u<5):∀x∈D6 (I far) (h.1.2 u),x.m.1∉h.1.6 far:=λx hx=>by obtain⟨d,a,b,e,rfl⟩:=CI.1 hx;exact KY h0 f a b e
theorem OH1.comm(o:OH1 far c h)(h0:HOk h k i p){u:Nat}(a:u<5)(e:h.commE u=0):OH1 far c (h.comm u):=by
 have m:h.1.2 u≠[]:=λq=>by unfold HW.commE at e;rw[if_pos q]at e;cases e
 have w:CE h=0:=by unfold HW.commE at e;rw[if_neg m]at e;exact e
 have t:h.comm u={h with rs:=I6 h.1 u,ns:=h.2,d:=Tg h.d h.4.length (Gb h.1.3 (An (h.1.2 u)) (Aj (h.1.2 u))),chs:=h.4++[Gb h.1.3 (An (h.1.2 u)) (Aj (h.1.2 u))],N:=h.N+(Cx h.1.3 (Aj (h.1.2 u))).length}:=by unfold HW.comm;rw[if_neg m,HW.wr_yes w]
 rw[t];have mem:∀l x,x∈(I6 h.1 u).Q l->(∃y∈h.1.Q l,x=B8 u y)\/x∈D6 l (h.1.2 u):=λl x hx=>by
  have hx:x∈Al (D1 l (h.1.2 u)) (AN u true (h.1.Q l))++D6 l (h.1.2 u):=hx;rw[o.noTakes h0 a]at hx;rcases ab.1 hx with hx|hx
  ·obtain⟨y,f,-,e⟩:=Br.1 (show x∈AN u true (h.1.Q l)from hx);exact .inl ⟨y,f,e⟩
  ·exact .inr hx
 refine⟨o.cnt,λj hj=>?_,λx hx=>?_,λv x hx=>?_,?_,?_⟩
 ·obtain⟨b,a2,a3⟩:=o.ways j hj;refine⟨?_,a2,a3⟩;show Al (D1 (I j) (h.1.2 u)) (AN u true (h.1.Q (I j)))++D6 (I j) (h.1.2 u)=[];rw[o.noTakes h0 a,o.putsAt_no h0 a (λq=>hj (Sum.inr.inj q)),b,aa];show AN u true []=[];unfold AN;split<;>rfl
 ·rcases mem _ x hx with⟨y,f,rfl⟩|hx
  ·obtain⟨b,a2,a3⟩:=o.wait y f;rw[BY];exact⟨Q0I b,a2,a3⟩
  ·obtain⟨d,n,z,A,rfl⟩:=CI.1 hx;obtain⟨-,-,r⟩:=o.did h0 a n;obtain⟨-,a2,a3⟩:=o.wait _ r;exact⟨rfl,a2,a3⟩
 ·rcases mem _ x hx with⟨y,f,rfl⟩|hx
  ·obtain⟨b,a2,a3⟩:=o.here v y f;rw[CU (by rw[b];omega)];exact⟨b,a2,a3⟩
  ·rw[o.putsAt_no h0 a oS]at hx;cases hx
 ·show Q0z (Ap ((I6 h.1 u).Q (I far))) (h.1.6 far);rw[o.bareO h0 a];exact Q0Z o.pre (o.doubtO h0 a)
 ·have s:=Q0s (h:=h) (h':={h with rs:=I6 h.1 u,ns:=h.2,d:=Tg h.d h.4.length (Gb h.1.3 (An (h.1.2 u)) (Aj (h.1.2 u))),chs:=h.4++[Gb h.1.3 (An (h.1.2 u)) (Aj (h.1.2 u))],N:=h.N+(Cx h.1.3 (Aj (h.1.2 u))).length}) a (l:=[]) rfl;have B:=List.length_pos_iff.2 m;have:=o.len;show((h.4++[Gb h.1.3 (An (h.1.2 u)) (Aj (h.1.2 u))]).length:Int)+Q0c _+(if h.1.6 far=[]then 0 else 1)<=3+c+2*h.1.7 far+J4 h;rw[ad,ak];rw[av]at s;omega
theorem Q0y(k:Nat):∀(l:List Mg) (R:Nat->List Int),(∀m∈l,m.5≠(k:Int)/\0<=m.2/\m.2<=9)->∀(a:Nat) (p:Int),0<=p->p<=2->DF R k l (a*100+p.toNat)=R (a*100+p.toNat)++(if a=k then(l.filter λm=>decide (m.2=p)).map Mg.id else [])
 |[],R,_,a,p,_,_=>by show R _=_;split<;>simp
 |m::l,R,hm,a,p,h0,h2=>by
  obtain⟨j,n,m3⟩:=hm m (ao ..);have f:=Q0y k l (Af R (k*100+m.2.toNat) (R (k*100+m.2.toNat)++[m.1])) (λx hx=>hm x (al _ hx)) a p h0 h2;have e:DF R k (m::l)=DF (Af R (k*100+m.2.toNat) (R (k*100+m.2.toNat)++[m.1])) k l:=by show DF (if m.5≠(k:Int)then _ else R) k l=_;rw[if_pos j]
  rw[e,f];by_cases b:a=k
  ·subst b;rw[if_pos rfl,if_pos rfl];by_cases d:m.2=p
   ·rw[List.filter_cons_of_pos (by simpa using d),d,Ae,List.map_cons,ah];rfl
   ·rw[List.filter_cons_of_neg (by simpa using d),Ab _ _ O]
  ·rw[if_neg b,if_neg b,Ab _ _ O]
theorem OH1.puts(o:OH1 far c h)(h0:HOk h k i p)(e:far≠k){u:Nat}(f:u<5):∀m∈Aj (h.1.2 u),m.5≠(k:Int)/\0<=m.2/\m.2<=9:=λm hm=>by obtain⟨d,b,-,rfl⟩:=AZ.1 hm;obtain⟨-,-,a⟩:=o.did h0 f b;obtain⟨-,a2,-⟩:=o.wait _ a;have:=Q0g ((h0.1.q.1 _).1 _ a);refine⟨?_,this⟩;have a2:d.m.5=(far:Int):=a2;rw[a2];omega
theorem Q1i(p:Int)(l:List Mg):Q0b p (l.map fr)=(l.filter λm=>decide (m.2=p)).map Mg.id:=by unfold Q0b;rw[au,ap];rfl
theorem OH2.comm(d:OH2 far k R h g)(o:OH1 far c h)(h0:HOk h k i p)(b:far≠k){u:Nat}(a:u<5)(e:(h.comm u).1=I6 h.1 u):OH2 far k (DF R k (Go.Proofs.YtgkcfpbndgfdlaaGreatDoor.Aj (h.1.2 u))) (h.comm u) g:=⟨d.by_,λp f j=>by rw[Q0y k _ R (o.puts h0 b a) k p f j,if_pos rfl,d.ord p f j,ah,<-Q1i,<-o.putsAt_far h0 a];congr 1;unfold Z7;rw[e,o.bareO h0 a];show _=Q0b p ((Ap (h.1.Q (I far))++D6 (I far) (h.1.2 u)).filter λx=>!decide (h.1.7 far<=g.1.8 k/\x.m.1∈h.1.6 far));rw[List.filter_append,Q0d];congr 2;exact(E.2 (λx hx=>by have:=o.doubtO h0 a x hx;simp[this])).symm⟩
theorem OH2.comm2(d:OH2 far k R h g){j b:Nat}{c:Int}(o:OH1 j c g)(h0:HOk g b i p){u:Nat}(a:u<5)(e:(g.comm u).1=I6 g.1 u)(n:∀p:Int,0<=p->p<=2->R' (k*100+p.toNat)=R (k*100+p.toNat)):OH2 far k R' h (g.comm u):=by
 have eb:Ap ((g.comm u).1.Q (ae FB))=Ap (g.1.Q (ae FB)):=by rw[e,o.bareO h0 a,o.putsAt_no h0 a oS,aa]
 have m:(g.comm u).1.8=g.1.8:=by rw[e];rfl
 exact⟨by rw[eb];exact d.by_,λp f l=>by rw[n p f l,eb,m];exact d.ord p f l⟩
theorem OH1.free(o:OH1 far c h):Ar Pl.free (AA (h.1.Q (I far)))=(AA (Ap (h.1.Q (I far)))).map Pl.m:=by rw[<-FZ];unfold Ar;congr 1;refine Y (λx hx=>?_);have hx:x∈h.1.Q (I far):=((Gm 10).1 hx).1;unfold Pl.free Pl.kept;rw[(o.wait x hx).1,Bool.or_false]
theorem OH1.next(o:OH1 far c h):Bb h.1 far=((AA (Ap (h.1.Q (I far)))).take 3).map λx=>x.m.1:=by unfold Bb;rw[o.free,<-List.map_take,ap];rfl
theorem OH1.freeNo(o:OH1 far c h){j:Nat}(hj:j≠far):h.1.6 j=[]/\Ar Pl.free (AA (h.1.Q (I j)))=[]:=by obtain⟨a,a2,-⟩:=o.ways j hj;rw[a];exact⟨a2,rfl⟩
theorem OH1.made(o:OH1 far c h)(h0:HOk h k i p)(m:h.1.6 far=[])(n:Bb h.1 far≠[])(e:h'.1=FG h.1 far)(l:h'.4.length=h.4.length+1):OH1 far c h':=by
 refine⟨by rw[e];exact o.cnt,λj hj=>?_,by rw[e];exact o.wait,by rw[e];exact o.here,?_,?_⟩
 ·obtain⟨a,a2,a3⟩:=o.ways j hj;rw[e];exact⟨a,by show Af h.1.6 far _ j=[];rw[Ab _ _ hj];exact a2,by show Af h.1.7 far _ j=0;rw[Ab _ _ hj];exact a3⟩
 ·rw[e];show Q0z (Ap (h.1.Q (I far))) (Af h.1.6 far (Bb h.1 far) far);rw[Ae,o.next];exact Q1a (EY (h0.1.q.1 _)) 3
 ·have:=o.len;rw[if_pos m]at this;have b:h'.1.6 far=Bb h.1 far:=by rw[e];exact Ae _ _ _
  have d:h'.1.7 far=h.1.7 far+1:=by rw[e];exact Ae _ _ _
  have f:J4 h'=J4 h:=by unfold J4;rw[e];rfl
  rw[b,if_neg n,d,f,l,Q0f (h:=h) (by rw[e];rfl)];omega
theorem OH2.made(a:OH2 far k R h g)(f:h.1.6 far=[])(hm:h.1.7 far=g.1.8 k)(e:h'.1=FG h.1 far):OH2 far k R h' g:=⟨a.by_,λp j l=>by
 rw[a.ord p j l];congr 2;unfold Z7;have b:h'.1.Q=h.1.Q:=by rw[e];rfl
 have d:h'.1.7 far=h.1.7 far+1:=by rw[e];exact Ae _ _ _
 rw[b,d,f];refine Y (λx _=>?_);have:¬(h.1.7 far+1<=g.1.8 k):=O;simp[this]⟩
theorem OH1.came(o:OH1 far c h)(n:h.1.6 far≠[])(e:h'.1=I3 h.1 far)(m:h'.4.length=h.4.length+1):OH1 far c h':=by
 have b:h'.1.Q=AU h.1.Q (I far) (Al (h.1.6 far) (h.1.Q (I far))):=by rw[e];rfl
 refine⟨by rw[e];exact o.cnt,λj hj=>?_,λx hx=>?_,λv x hx=>?_,?_,?_⟩
 ·obtain⟨d,a2,a3⟩:=o.ways j hj;rw[b,BB _ _ (λq=>hj (Sum.inr.inj q)),e];exact⟨d,by show Af h.1.6 far _ j=[];rw[Ab _ _ hj];exact a2,a3⟩
 ·rw[b,Dx]at hx;exact o.wait x (Bt.1 hx).1
 ·rw[b,BB _ _ oS]at hx;exact o.here v x hx
 ·have a:h'.1.6 far=[]:=by rw[e];exact Ae _ _ _
  rw[a];exact Q0K _
 ·have:=o.len;rw[if_neg n]at this;have a:h'.1.6 far=[]:=by rw[e];exact Ae _ _ _
  have f:h'.1.7 far=h.1.7 far:=by rw[e];rfl
  have l:J4 h'=J4 h:=by unfold J4;rw[e];rfl
  rw[a,if_pos rfl,f,l,m,Q0f (h:=h) (by rw[e];rfl)];omega
theorem OH2.came(a:OH2 far k R h g)(hm:h.1.7 far<=g.1.8 k)(e:h'.1=I3 h.1 far):OH2 far k R h' g:=⟨a.by_,λp f j=>by
 rw[a.ord p f j];congr 2;unfold Z7;have d:h'.1.Q (I far)=Al (h.1.6 far) (h.1.Q (I far)):=by rw[e];exact Dx _ _ _
 have b:h'.1.6 far=[]:=by rw[e];exact Ae _ _ _
 rw[d,b,Bz,Nx,List.filter_filter];refine Y (λx _=>?_);simp[hm]⟩
theorem OH2.came2(b:OH2 far k R h g){j:Nat}(e:g'.1=I3 g.1 j):OH2 far k R h g':=by
 have a:g'.1.Q (ae FB)=g.1.Q (ae FB):=by rw[e];exact BB g.1.Q (s:=I j) (t:=ae FB) (Al (g.1.6 j) (g.1.Q (I j))) oS
 have d:g'.1.8=g.1.8:=by rw[e];rfl
 exact⟨by rw[a];exact b.by_,λp f l=>by rw[a,d];exact b.ord p f l⟩
theorem OH2.made2(b:OH2 far k R h g){j:Nat}(e:g'.1=FG g.1 j):OH2 far k R h g':=by
 have a:g'.1.Q=g.1.Q:=by rw[e];rfl
 have d:g'.1.8=g.1.8:=by rw[e];rfl
 exact⟨by rw[a];exact b.by_,λp f l=>by rw[a,d];exact b.ord p f l⟩
theorem OH1.arr(o:OH1 far c g){a:Nat}(r:a<4){l:List Mg}(hq:∀m∈l,m.4=FB)(e:g'.1=J5 g.1 a l [])(q:g'.4.length=g.4.length+1):OH1 far c g':=by
 have b:∀j,g'.1.Q (I j)=g.1.Q (I j):=λj=>by rw[e];rfl
 have d:g'.1.6=g.1.6:=by rw[e];rfl
 have n:g'.1.7=g.1.7:=by rw[e];rfl
 refine⟨by rw[e];exact o.cnt,λj hj=>by rw[b,d,n];exact o.ways j hj,by rw[b];exact o.wait,λv x hx=>?_,by rw[b,d];exact o.pre,?_⟩
 ·rw[e]at hx;rcases mem_arrQ (show x∈arrQ g.1.Q l [] (ae v)from hx)with hx|⟨m,rfl,⟨f,s⟩|⟨f,-⟩⟩
  ·exact o.here v x hx
  ·exact⟨rfl,rfl,by rw[<-s];exact hq m f⟩
  ·cases f
 ·have:=o.len;rw[d,n,q,Q0f (h:=g) (by rw[e];rfl),VA (a:=a) g g' r (by rw[e];rfl)];omega
theorem Q1m{q:ByteArray}{l:List Mg}(h:∀m∈l,m.4=q):FC q l=l.map fr:=by unfold FC;rw[E.2 (λm hm=>by simpa using h m hm)];rfl
theorem OH2.arr(f:OH2 far k R h g)(o:OH1 far c h)(h0:HOk h k i p)(hm:h.1.7 far=g.1.8 k+1){l:List Mg}(d:l=Cb h.1 far)(hq:∀m∈l,m.4=FB)(u:FB≠AF)(e:g'.1=J5 g.1 k l []):OH2 far k R h g':=by
 have eb:Ap (g'.1.Q (ae FB))=Ap (g.1.Q (ae FB))++l.map fr:=by rw[e];show Ap (arrQ g.1.Q l [] (ae FB))=_;rw[IX,if_neg u,aa,Q1m hq]
 have z:g'.1.8 k=g.1.8 k+1:=by rw[e];exact Ae _ _ _
 refine⟨λx hx=>?_,λp a b=>?_⟩
 ·rw[eb]at hx;rcases ab.1 hx with hx|hx
  ·exact f.by_ x hx
  ·obtain⟨m,hm,rfl⟩:=ac.1 hx;rw[d]at hm;obtain⟨w,-⟩:=(IL (h0.1.q.1 _)).1 hm;obtain⟨y,v,-,rfl⟩:=CP w;rw[<-h0.2];exact h0.1.q.4 far y v
 ·rw[f.ord p a b,eb,Q0d,ah];congr 1;have j:Z7 h.1 far (g.1.8 k)=Ap (h.1.Q (I far)):=by unfold Z7;refine E.2 (λx _=>?_);have:¬h.1.7 far<=g.1.8 k:=O;simp[this]
  have n:Z7 h.1 far (g'.1.8 k)=(Ap (h.1.Q (I far))).filter λx=>decide (x.m.1∉h.1.6 far):=by unfold Z7;refine Y (λx _=>?_);have:h.1.7 far<=g'.1.8 k:=O;simp[this]
  rw[j,n,o.pre p a b];congr 1;rw[d,B7,<-Q0e a b (List.filter _ _),Q0a];have r:∀A:List Pl,(∀x∈A,x=fr x.m)->((A.map Pl.m).filter λm=>decide (m.1∈h.1.6 far)).map fr=A.filter λx=>decide (x.m.1∈h.1.6 far):=λA s=>by
   rw[au,ap];have:∀B:List Pl,(∀x∈B,x=fr x.m)->B.map (fr∘Pl.m)=B:=λB t=>by
    conv=>rhs;rw[<-List.map_id B]
    exact List.map_congr_left (λx hx=>(t x hx).symm)
   rw[this _ (λx hx=>s x (List.mem_filter.1 hx).1)];rfl
  rw[r (AA (Ap (h.1.Q (I far)))) (λx hx=>VB ((Gm 10).1 hx).1)]
theorem OH2.arr1(b:OH2 far k R h g){a:Nat}{l d:List Mg}(e:h'.1=J5 h.1 a l d):OH2 far k R h' g:=by
 have f:∀ar,Z7 h'.1 far ar=Z7 h.1 far ar:=λar=>by unfold Z7;rw[e];rfl
 exact⟨b.by_,λp j m=>by rw[f];exact b.ord p j m⟩
end
theorem Q0H{l:List Mg}{k:Nat}{c:Int}(d:l.Pairwise λa b=>a.1≠b.1)(hm:∀m∈l,m.1%4=(k:Int)/\0<=m.1/\m.1<4*c):l.length<=c.toNat:=by have:=Wq (ids:=(List.range c.toNat).map λi:Nat=>4*(i:Int)+(k:Int)) d (λm h=>by obtain⟨h1,h2,e⟩:=hm m h;refine ac.2 ⟨(m.1/4).toNat,List.mem_range.2 O,O⟩);rwa[aj,List.length_range]at this
theorem Q1b{ns:List Nm}{A:ByteArray->List Pl}{q:ByteArray}(f:Ek ns q=true):∀(l:List Mg) (p:Pt),(∀m∈l,m.4=q)->(A q).length+p.c q+l.length<=20->(l.foldl (EE ns A) p).q=p.q++l/\(l.foldl (EE ns A) p).d=p.d
 |[],p,_,_=>⟨oS,rfl⟩
 |m::l,p,hm,hl=>by
  have e:=hm m (ao ..);rw[List.length_cons]at hl;have j:EE ns A p m=⟨λt=>if t=m.4 then p.c m.4+1 else p.c t,p.q++[m],p.d⟩:=by unfold EE;rw[if_pos ⟨by rw[e];exact f,by rw[e];omega⟩]
  rw[List.foldl_cons,j];obtain⟨h1,h2⟩:=Q1b f l ⟨λt=>if t=m.4 then p.c m.4+1 else p.c t,p.q++[m],p.d⟩ (λx hx=>hm x (al _ hx)) (by show(A q).length+(if q=m.4 then p.c m.4+1 else p.c q)+l.length<=20;rw[if_pos e.symm,e];omega);refine⟨?_,h2⟩;rw[h1];simp
theorem Q1r{n k:Nat}(h2:2<=n)(d:n<=4)(hk:k<n):Ek (DN n k) FB=true:=by rcases nk_cases h2 d hk with⟨rfl,rfl⟩|⟨rfl,rfl⟩|⟨rfl,rfl⟩|⟨rfl,rfl⟩|⟨rfl,rfl⟩|⟨rfl,rfl⟩|⟨rfl,rfl⟩|⟨rfl,rfl⟩|⟨rfl,rfl⟩<;>kernel_rfl
theorem Q1j:FB≠AF:=oD
section
variable{n t k a b i p:Nat}{c c':Nat->Int}{s:WSt}{T:List Mg}{R:Nat->List Int}{h g:HW}
theorem OrdI.put(j:OrdI n c s R)(d:WI (DN n) n t s T)(hk:s.1[k]?=G h){u:Nat}(l:u<5)(q:Int)(f:ByteArray)(hc:∀k,c k<=c' k)(e:c k+1<=c' k):OrdI n c' (s.setH k (h.put u CG q f)) R:=by obtain⟨i,p,o⟩:=d.allOk k h hk;exact j.same d.1.1 d.2.1 hk (UC h u _ _ _) hc ((j.1 k h hk).put o (Q0j d.1.1 (d.lt hk)) l (Mk d hk q f).2.2 e)
theorem OrdI.comm(x:OrdI n c s R)(l:WI (DN n) n t s T)(hk:s.1[k]?=G h){u:Nat}(r:u<5)(e:h.commE u=0):OrdI n c (s.setH k (h.comm u)) (DF R k (Aj (h.1.2 u))):=by
 obtain⟨i,p,o⟩:=l.allOk k h hk;have v:=x.1 k h hk;have d:=Q0j l.1.1 (l.lt hk);have w:=(MW e).1;have y:∀a,a≠k->∀p:Int,0<=p->p<=2->DF R k (Aj (h.1.2 u)) (a*100+p.toNat)=R (a*100+p.toNat):=λa m p h0 h2=>by rw[Q0y k _ R (v.puts o d r) a p h0 h2,if_neg m,aa]
 refine x.turn l.1.1 l.2.1 hk (λ_=>Z _) (v.comm o r e) (λg hg j=>j.comm v o d r w) (λa f m z j=>j.comm2 v o r w (y a ?_)) (λa f g m j=>⟨j.by_,λp h0 h2=>by rw[y a m p h0 h2];exact j.ord p h0 h2⟩);intro q;subst q;exact d z
theorem OrdI.commN(f:OrdI n c s R)(d:WI (DN n) n t s T)(hk:s.1[k]?=G h){u:Nat}(e:h.commE u≠0):OrdI n c (s.setH k (h.comm u)) R:=by
 unfold HW.commE at e;by_cases j:h.1.2 u=[]
 ·have l:h.comm u=h:=by unfold HW.comm;rw[if_pos j]
  rw[l];exact f.same d.1.1 d.2.1 hk (SameC.refl h) (λ_=>Z _) (f.1 k h hk)
 ·rw[if_neg j]at e;unfold HW.comm;rw[if_neg j];exact f.same d.1.1 d.2.1 hk (Fs e) (λ_=>Z _) ((f.1 k h hk).no e)
theorem OrdI.back(e:OrdI n c s R)(d:WI (DN n) n t s T)(hk:s.1[k]?=G h){u:Nat}(f:u<5):OrdI n c (s.setH k (h.back u)) R:=e.same d.1.1 d.2.1 hk (RQ h u) (λ_=>Z _) ((e.1 k h hk).back f)
theorem OrdI.cutT(e:OrdI n c s R)(d:WI (DN n) n t s T)(hk:s.1[k]?=G h)(z tn:Int):OrdI n c (s.setH k (h.cutT z tn)) R:=e.same d.1.1 d.2.1 hk (RR h z tn) (λ_=>Z _) ((e.1 k h hk).keep rfl rfl rfl rfl rfl rfl rfl)
theorem OrdI.cut(e:OrdI n c s R)(d:WI (DN n) n t s T)(hk:s.1[k]?=G h)(z:Int):OrdI n c (s.setH k (h.cut z)) R:=e.same d.1.1 d.2.1 hk (NL h z) (λ_=>Z _) ((e.1 k h hk).keep rfl rfl rfl rfl rfl rfl rfl)
theorem OrdI.anew(e:OrdI n c s R)(d:WI (DN n) n t s T)(hk:s.1[k]?=G h)(H:Nat):OrdI n c (s.setH k ((h.cut (-1)).anew H)) R:=by obtain⟨i,p,o⟩:=d.allOk k h hk;exact e.same d.1.1 d.2.1 hk ((NL h (-1)).trans (RP _ H)) (λ_=>Z _) ((e.1 k h hk).anew o H)
theorem OrdI.bat(m:OrdI n c s R)(d:WI (DN n) n t s T)(hk:s.1[k]?=G h){far:Nat}:OrdI n c (s.setH k (h.bat (far:Int))) R:=by
 obtain⟨i,p,o⟩:=d.allOk k h hk;have q:=m.1 k h hk;have v:OrdI n c (s.setH k h) R:=m.same d.1.1 d.2.1 hk (SameC.refl h) (λ_=>Z _) q;unfold HW.bat;split
 ·rename_i e;obtain⟨y,-,r⟩:=IW e.1;rw[ag]at e r⊢;by_cases u:CE h=0
  ·by_cases w:far=(k+1)%n
   ·rw[HW.wr_yes u];subst w;have x:=Qd (r e.2);refine m.turn d.1.1 d.2.1 hk (λ_=>Z _) (q.made o e.2 x rfl oS) (λg hg l=>l.made e.2 ?_ rfl) (λa f A z l=>l.made2 (j:=(k+1)%n) rfl) (λ_ _ _ _ l=>l);exact(d.2.7 k h _ g (Ne.symm (Q0j d.1.1 (d.lt hk))) hk hg).2.2 e.2
   ·exact absurd (q.freeNo w).2 (r e.2)
  ·exact m.same d.1.1 d.2.1 hk (Fs u) (λ_=>Z _) (q.no u)
 ·exact v
theorem OrdI.sendB(e:OrdI n c s R)(d:WI (DN n) n t s T)(hk:s.1[k]?=G h){far:Nat}:OrdI n c (s.sendB k h far) R:=by
 unfold WSt.sendB;split
 ·exact(e.bat d hk).hs (Mm _ _)
 ·exact e.bat d hk
theorem OrdI.came(o:OrdI n c s R)(l:WI (DN n) n t s T){q:Pk}(d:PkOk s q a b h g)(x:q.3=true):OrdI n c (s.setH b (g.came q.1 q.2)) R:=by
 have r:=o.1 b g d.5;unfold HW.came;split
 ·exact o.same l.1.1 l.2.1 d.5 (SameC.refl g) (λ_=>Z _) r
 ·rename_i e;obtain⟨-,-,u,y⟩:=ML (by simpa using e);rw[d.1,ag]at u y⊢;by_cases v:CE g=0
  ·by_cases w:a=(b+1)%n
   ·rw[HW.wr_yes v];subst w;refine o.turn l.1.1 l.2.1 d.5 (λ_=>Z _) (r.came u rfl oS) (λf z m=>m.came ?_ rfl) (λa f x A m=>m.came2 (j:=(b+1)%n) rfl) (λ_ _ _ _ m=>m);obtain rfl:f=h:=J (z.symm.trans d.4);have:=(d.8 x).2;omega
   ·exact absurd (r.ways a w).2.1 u
  ·exact o.same l.1.1 l.2.1 d.5 (Fs v) (λ_=>Z _) (r.no v)
theorem OrdI.room(A:OrdI n c s R)(f:WI (DN n) n t s T)(hc:∀k,c k<=20)(r:s.1[a]?=G h)(hg:s.1[(a+1)%n]?=G g){l:List Mg}(M:l=Cb h.1 ((a+1)%n))(hm:g.1.8 a<h.1.7 ((a+1)%n)):(g.1.Q (ae FB)).length+l.length<=20:=by
 obtain⟨i,p,o⟩:=f.allOk a h r;obtain⟨i',p',N⟩:=f.allOk _ g hg;have W:=A.1 a h r;have og:=A.1 _ g hg;have X:=A.2 a h g r hg;have D:=Q0j f.1.1 (f.lt r);have U:=f.lt r;have V:=f.lt hg;have S:=f.1;have B:∀(k:Nat) (h:HW),s.1[k]?=G h->h.1.3=(k:Int):=λk h hk=>by obtain⟨i,p,o⟩:=f.allOk k h hk;exact o.2
 have j:∀x∈g.1.Q (ae FB),fr x.m∈Ap (g.1.Q (ae FB)):=λx hx=>A7.2 ⟨x,hx,by simp[Pl.kept,(og.here _ x hx).1],rfl⟩;have nm:∀m∈l,Cc s a h ((a+1)%n) m:=λm d=>by rw[M]at d;obtain⟨H,m2⟩:=(IL (o.1.q.1 _)).1 d;refine⟨by rw[o.2];exact AE.2 ⟨⟨O,O⟩,O⟩,H,λz=>?_⟩;rw[IF B hg O (Ne.symm D)]at z;omega
 have L:∀m∈l,m.1%4=(a:Int):=λm d=>by obtain⟨-,H,-⟩:=nm m d;obtain⟨y,u,-,rfl⟩:=CP H;rw[<-o.2];exact o.1.q.4 _ y u
 have w:∀m∈T,m.1%4=(a:Int)->m.1<4*c a:=λm d e=>by have:=f.2.6 a h r m d e;have:=o.1.bn;have:=W.cnt;omega
 have:=Q0H (l:=(g.1.Q (ae FB)).map Pl.m++l) (k:=a) (c:=c a) (by
  rw[List.pairwise_append];refine⟨aq.2 (N.1.q.1 _).2,?_,λx hx y u=>?_⟩
  ·rw[M];unfold Cb;exact(Ia (o.1.q.1 _)).filter _
  ·obtain⟨z,v,rfl⟩:=ac.1 hx;exact f.2.5 _ g a h _ z.m y hg r ⟨FB,j z v⟩ (nm y u)) (λm d=>by
  rcases ab.1 d with hx|hx
  ·obtain⟨z,v,rfl⟩:=ac.1 hx;have e:=X.by_ _ (j z v);exact⟨e,(N.1.q.ids v).1,w _ ((f.2.3 _).2 (.inl ⟨_,g,hg,FB,j z v⟩)) e⟩
  ·have e:=L m hx;obtain⟨y,u,-,P⟩:=CP (nm m hx).2.1;exact⟨e,by rw[<-P];exact(o.1.q.ids u).1,w _ ((f.2.3 _).2 (.inr ⟨a,h,_,r,nm m hx⟩)) e⟩);rw[ad,aj]at this;have:=hc a;omega
theorem OrdI.arr(r:OrdI n c s R)(o:WI (DN n) n t s T)(hc:∀k,c k<=20){q:Pk}(j:PkOk s q a b h g)(W:q.3=false):OrdI n c (s.setH b (HW.arr F g q.1 q.2 q.4)) R:=by
 have L:=r.1 b g j.5;obtain⟨gi,gp,N⟩:=o.allOk b g j.5;obtain⟨hi,a0,P⟩:=o.allOk a h j.4;have D:=o.lt j.4;have w:=o.1;have H:OrdI n c (s.setH b g) R:=r.same o.1.1 o.2.1 j.5 (SameC.refl g) (λ_=>Z _) L;unfold HW.arr;split
 ·rename_i e;obtain⟨-,-,V,-,-⟩:=F3 N.1 e.1 e.2;by_cases B:CE g=0
  ·rw[j.1,ag]at V⊢;obtain⟨b1,S⟩:=j.9 W;by_cases M:b=(a+1)%n
   ·subst M;have u:=S O;have x:=r.1 a h j.4;have hq:∀m∈q.4,m.4=FB:=λm hm=>by rw[u]at hm;obtain⟨m1,-⟩:=(IL (P.1.q.1 _)).1 hm;obtain⟨y,hy,-,rfl⟩:=CP m1;exact(x.wait y hy).2.2
    have v:=r.room o hc j.4 j.5 u O;obtain⟨f1,f2⟩:=Q1b (ns:=g.2) (A:=λs=>g.1.Q (ae s)) (by rw[o.6 _ g j.5];exact Q1r w.1 w.2 (o.lt j.5)) q.4 ⟨λ_=>0,[],[]⟩ hq (by simpa using v);have f1:Fa g q.4=q.4:=f1;have f2:E9 g q.4=[]:=f2;rw[HW.wr_yes B,f1,f2];have X:=(o.2.7 a h _ g j.3 j.4 j.5).2.1;refine r.turn o.1.1 o.2.1 j.5 (λ_=>Z _) (L.arr (a:=a) O hq rfl oS) (λf hf z=>z.arr1 (a:=a) (l:=q.4) (d:=[]) rfl) (λk f hk U z=>?_) (λ_ _ _ _ z=>z);obtain rfl:=Q1f (o.lt hk) D U;obtain rfl:f=h:=J (hk.symm.trans j.4);exact z.arr x P O u hq Q1j rfl
   ·have:=((r.1 a h j.4).ways b M).2.2;have:=N.1.25 a;omega
  ·exact r.same o.1.1 o.2.1 j.5 (Fs B) (λ_=>Z _) (L.no B)
 ·exact H
theorem OrdI.comes(f:OrdI n c s R)(d:WI (DN n) n t s T)(hc:∀k,c k<=20){q:Pk}(j:PkOk s q a b h g):OrdI n c (WSt.comes F s b g q) R:=by
 unfold WSt.comes;split
 ·rename_i e;exact f.came d j e
 ·rename_i e;have e:q.3=false:=by simpa using e
  split
  ·exact(f.arr d hc j e).hs (Mm _ _)
  ·exact f.arr d hc j e
theorem OrdI.deliver(l:OrdI n c s R)(e:WI (DN n) n t s T)(hc:∀k,c k<=20){j:Nat}{q:Pk}(hj:s.2[j]?=G q)(hk:s.1[k]?=G h)(m:q.5=(k:Int)):OrdI n c (WSt.comes F (s.rem j) k h q) R:=by
 obtain⟨a,b,f,g,d⟩:=e.2.9 q (am hj);obtain rfl:b=k:=by have:=d.2;omega
 obtain rfl:g=h:=J (d.5.symm.trans hk);exact(l.hs (s':=s.rem j) rfl).comes (e.rem j) hc (d.rem j)
end
section
variable{n t:Nat}{c c':Nat->Int}{s s0:WSt}{T:List Mg}{R:Nat->List Int}
theorem Q0P(v:t<=113)(hc:∀k,c k<=20):Lx n (λj s=>XR (DN n) n t T s0 j s/\OrdI n c s R) (λs=>Xx (DN n) n t T s0 s/\OrdI n c s R) (λ_ s=>(Xx (DN n) n t T s0 s/\OrdI n c s R)/\s.2=[]) (λ_ s=>Xx (DN n) n t T s0 s/\OrdI n c s R):=by
 have C:=QE (nms:=DN n) (n:=n) (T:=T) (s0:=s0) v;have D:Vq (λs=>Xx (DN n) n t T s0 s/\OrdI n c s R):=λs q r hs e=>by obtain⟨k,h,i,p,d,o⟩:=C.6 s q r hs.1 e;exact⟨k,h,i,p,d,o,hs.2.deliver hs.1.1 hc (j:=0) (by rw[e];rfl) d.2 d.1⟩
 exact{len:=λj s h=>C.1 j s h.1,ok:=λj s h a hk=>C.2 j s h a.1 hk,on:=λj s h a hk f=>⟨C.3 j s h a.1 hk f,a.2.cut a.1.1 hk _⟩,up:=λj s h g a hk f=>⟨C.4 j s h g a.1 hk f,a.2.anew a.1.1 hk g⟩,a0:=λs a=>⟨C.5 s a.1,a.2⟩,del0:=D,k0:=λs h e=>⟨h,e⟩,klen:=λm s h=>C.8 m s ⟨h.1.1,h.2⟩,kok:=λm s k h b hk=>C.9 m s k h ⟨b.1.1,b.2⟩ hk,send:=λk far s h hk u b l=>⟨C.10 k far s h hk u ⟨b.1.1,b.2⟩ l,b.1.2.sendB b.1.1.1 l⟩,del:=λ_=>D,ka:=λm s h e=>⟨h,e⟩}
theorem Q0r(a:WI (DN n) n t s T):XR (DN n) n t T s 0 s:=⟨a,λk h0 h h1 h2=>⟨λq=>O,λ_=>J (h2.symm.trans h1)⟩⟩
theorem Q0X(j:t<=113)(hc:∀k,c k<=20):Sy n (λm s=>(m=0/\s=s0/\WI (DN n) n t s T/\OrdI n c s R)\/(0<m/\Xx (DN n) n t T s0 s/\OrdI n c s R)) (λs=>Xx (DN n) n t T s0 s/\OrdI n c s R):=λm e b=>by
 have d:WI (DN n) n t e T/\OrdI n c e R:=by
  rcases b with⟨-,-,h⟩|⟨-,h,h'⟩
  ·exact h
  ·exact⟨h.1,h'⟩
 refine⟨d.1.allOk,_,_,_,_,Q0P (n:=n) (T:=T) (R:=R) (s0:=e) j hc,⟨Q0r d.1,d.2⟩,λs' a=>?_⟩;have i:Xx (DN n) n t T s0 s':=by
  rcases b with⟨-,rfl,-⟩|⟨-,f,-⟩
  ·exact a.1.1
  ·refine⟨a.1.1.1,λk h0 h h1 h2=>?_⟩;obtain⟨g,hg⟩:=f.1.get (a.1.1.1.lt h2);obtain⟨l,o⟩:=a.1.1.2 k g h hg h2;obtain⟨p,q⟩:=f.2 k h0 g h1 hg;refine⟨l,o.trans ?_⟩;rw[<-q];unfold EU;rw[p.1];rfl
 exact⟨a.1.1.1.allOk,.inr ⟨O,i,a.1.2⟩,λ_=>⟨i,a.1.2⟩⟩
theorem Q1c{L:Nat->Prop}{W:Nat}{w:World}(d:WM L W s w)(a:WI (DN n) n t s T)(f:OrdI n c s R)(h:t<=113)(hc:∀k,c k<=20):Calls Tryz.prog 10 #[.pointer (G ⟨W,0,none⟩),.int .i64 1] w λe w'=>e=.returned (.tuple #[])/\Hid (∃s',(Xx (DN n) n t T s s'/\OrdI n c s' R)/\WM L W s' w'/\Only w w' (λb=>¬L b)):=by
 refine(Qt (Q0X h hc) d (.inl ⟨rfl,rfl,a,f⟩) 1 O).mono ?_;rintro e w' ⟨g,hs⟩;obtain⟨s',h1,h2⟩:=hs.o;refine⟨g,Aa ⟨s',?_,h2⟩⟩;rcases h1 with(⟨q,-⟩|⟨-,q⟩)|h1
 ·omega
 ·exact q
 ·exact h1.1
def JO(n t0:Nat)(c c':Nat->Int)(t:Nat)(s:WSt)(T:List Mg)(R:Nat->List Int):Prop:=t0<=t/\WI (DN n) n t s T/\(t<=t0+1->OrdI n (if t=t0 then c else c') s R)
theorem Q1o{t0:Nat}(a:∀k,c k<=c' k)(hc:∀k,c' k<=20)(t:Nat):∀k,(if t=t0 then c else c') k<=20:=λk=>by have:=a k;have:=hc k;split<;>omega
theorem JO.same{t0:Nat}(a:∀k,c k<=c' k)(hc:∀k,c' k<=20)(h:JO n t0 c c' t s T R){s':WSt}{T':List Mg}{b:Nat->List Int}(e:WI (DN n) n t s' T')(f:∀d:Nat->Int,(∀k,d k<=20)->OrdI n d s R->OrdI n d s' b):JO n t0 c c' t s' T' b:=⟨h.1,e,λq=>f _ (Q1o a hc t) (h.2.2 q)⟩
theorem JO.step{t0:Nat}(d:∀k,c k<=c' k)(h:JO n t0 c c' t s T R){s':WSt}{T':List Mg}{a:Nat->List Int}(b:WI (DN n) n (t+1) s' T')(f:OrdI n c s R->OrdI n c' s' a):JO n t0 c c' (t+1) s' T' a:=⟨by have:=h.1;omega,b,λq=>by have h1:=h.1;have e:t=t0:=O;rw[if_neg O];refine f ?_;have:=h.2.2 O;rwa[if_pos e]at this⟩
theorem Q0F(n t0:Nat)(a:∀k,c k<=c' k)(hc:∀k,c' k<=20):XA n (λk q=>q=CG/\c k+1<=c' k) False (JO n t0 c c') where
 wi h:=h.2.1
 more h:=h.step a (h.2.1.more (Nat.le_succ _)) (λo=>o.more a)
 put:=λh b hk f ⟨e,v⟩ _=>by subst e;exact h.step a (h.2.1.put b hk f _ _ _) (λo=>o.put h.2.1 hk f _ _ a v)
 take h:=h.elim
 comm h b hk f e:=h.same a hc (h.2.1.comm b hk f e) (λd _ o=>o.comm h.2.1 hk f e)
 commN h b hk f e:=h.same a hc (h.2.1.comm_no b hk f e) (λd _ o=>o.commN h.2.1 hk e)
 back h b hk f:=h.same a hc (h.2.1.back b hk f) (λd _ o=>o.back h.2.1 hk f)
 send h b hk:=h.step a (h.2.1.sendB b hk (an _ (by have:=h.2.1.1;omega))) (λo=>(o.sendB h.2.1 hk).more a)
 deli h b hj:=by obtain⟨k,g,i,p,j,y⟩:=h.2.1.deliver b hj;exact⟨k,g,i,p,j,h.same a hc y (λd A o=>o.deliver h.2.1 A hj j.2 j.1)⟩
 lose i h:=h.same a hc (h.2.1.rem i) (λd _ o=>o.hs rfl)
 twice h hi:=h.step a (h.2.1.send (h.2.1.2.9 _ (am hi))) (λo=>(o.hs (Mm _ _)).more a)
 cut h b hk hz tn:=h.same a hc (h.2.1.cutT b hk hz tn) (λd _ o=>o.cutT h.2.1 hk _ tn)
 anew h b hk H':=h.same a hc (h.2.1.anew b hk H') (λd _ o=>o.anew h.2.1 hk H')
 calm:=@λt s T R h b L W w x=>by
  by_cases q:t<=t0+1
  ·refine(Q1c x h.2.1 (h.2.2 q) b (Q1o a hc t)).mono ?_;rintro e w' ⟨h1,h2⟩;refine⟨h1,?_⟩;obtain⟨s',⟨⟨g1,l⟩,m⟩,u,z⟩:=h2.o;exact Aa ⟨s',⟨h.1,g1,λ_=>m⟩,l,u,z⟩
  ·refine(Va x h.2.1 b (r:=1) O O).mono ?_;rintro e w' ⟨h1,h2⟩;refine⟨h1,?_⟩;obtain⟨s',⟨g1,l⟩,m,u⟩:=h2.o;exact Aa ⟨s',⟨h.1,g1,λB=>absurd B q⟩,l,m,u⟩
end
def Z8(far:Nat)(h:HW):Nat:=(Ap (h.1.Q (I far))).length
theorem Q0h:∀{l:List HW} {k:Nat} {h h':HW},l[k]?=G h->MC (l.set k h')+h.4.length=MC l+h'.4.length
 |[],k,h,h',e=>by simp at e
 |x::l,0,h,h',e=>by
  obtain rfl:x=h:=by simpa using e
  simp[MC];omega
 |x::l,k+1,h,h',e=>by have:=Q0h (l:=l) (k:=k) (h:=h) (h':=h') (by simpa using e);simp[MC]at this⊢;omega
theorem Q1e(h:HW)(far:Int):h.4.length<=(h.bat far).4.length:=by
 unfold HW.bat;split
 ·exact(HW.wr_H h _ _ _ _).2
 ·exact af _
theorem Q0T(h:HW)(far n:Int):h.4.length<=(h.came far n).4.length:=by
 unfold HW.came;split
 ·exact af _
 ·exact(HW.wr_H h _ _ _ _).2
theorem Q0E(h:HW)(far n:Int)(l:List Mg):h.4.length<=(HW.arr F h far n l).4.length:=by
 unfold HW.arr;split
 ·exact(HW.wr_H h _ _ _ _).2
 ·exact af _
theorem Q0M(s:WSt)(j k:Nat)(h:HW)(q:Pk):∃h',(WSt.comes F (s.rem j) k h q).1=(s.setH k h').1/\h.4.length<=h'.4.length:=by
 unfold WSt.comes;split
 ·exact⟨_,rfl,Q0T h _ _⟩
 ·split
  ·exact⟨_,Mm _ _,Q0E h _ _ _⟩
  ·exact⟨_,rfl,Q0E h _ _ _⟩
theorem Q0J{n k a f b:Nat}(h2:2<=n)(d:n<=4)(i:f<n)(e:b<n):k*n+f=a*n+b↔k=a/\f=b:=by have:n=2\/n=3\/n=4:=O;rcases this with rfl|rfl|rfl<;>omega
theorem Q1k{n k f:Nat}(h2:2<=n)(a:n<=4)(hk:k<n)(b:f<n):k*n+f<n*n:=by have:n=2\/n=3\/n=4:=O;rcases this with rfl|rfl|rfl<;>omega
section
variable{n t k far m w0:Nat}{c:Nat->Int}{s s0 s1:WSt}{T:List Mg}{R:Nat->List Int}{h g:HW}
theorem OrdI.len(j:OrdI n c s R)(f:WI (DN n) n t s T)(l:t<=113)(hc:∀k,c k<=20)(hk:s.1[k]?=G h):h.4.length<=260:=by
 obtain⟨pb,h1,h2⟩:=f.3;obtain⟨i,o,oi⟩:=h2 k h hk;obtain⟨p,q⟩:=f.small h1 h2 hk;have a:=(j.1 k h hk).len;have b:=(o.1.24 ((k+1)%n)).2;have d:0<=Q0c h:=by unfold Q0c;omega
 have e:(0:Int)<=if h.1.6 ((k+1)%n)=[]then 0 else 1:=by split<;>omega
 have:=hc k;generalize(if h.1.6 ((k+1)%n)=[]then(0:Int)else 1)=z at a e;omega
theorem OrdI.few(d:OrdI n c s R)(b:WI (DN n) n t s T)(hc:∀k,c k<=20)(hk:s.1[k]?=G h):Z8 ((k+1)%n) h<=20:=by obtain⟨i,p,o⟩:=b.allOk k h hk;have:=Q0H (l:=(Ap (h.1.Q (I ((k+1)%n)))).map Pl.m) (k:=k) (c:=c k) (aq.2 (EY (o.1.q.1 _)).2) (λx hx=>by obtain⟨z,f,rfl⟩:=ac.1 hx;obtain⟨y,a,-,rfl⟩:=A7.1 f;have e:=o.1.q.4 _ y a;have j:=o.1.q.3 _ y a e;have r:=(d.1 k h hk).cnt;rw[o.2]at e;exact⟨e,(o.1.q.ids a).1,by show y.m.1<_;omega⟩);rw[aj]at this;have:=hc k;unfold Z8;omega
def Bw(n m k:Nat)(h:HW):Prop:=0<m->h.1.6 ((k+1)%n)=[]/\Z8 ((k+1)%n) h<=23-3*m
theorem Bw.keep{h':HW}(f:Bw n m k h)(d:h'.1.6=h.1.6)(e:∀j,Ap (h'.1.Q (I j))=Ap (h.1.Q (I j))):Bw n m k h':=λq=>by obtain⟨a,b⟩:=f q;unfold Z8 at b⊢;rw[d,e];exact⟨a,b⟩
def KO(n t:Nat)(c:Nat->Int)(R:Nat->List Int)(T:List Mg)(m w0 j:Nat)(s:WSt):Prop:=WI (DN n) n t s T/\s.2=[]/\OrdI n c s R/\w0<=MC s.1/\∀(k:Nat) (h:HW),s.1[k]?=G h->On h/\(k*n+(k+1)%n<j->Bw n (m+1) k h/\(w0<MC s.1\/Z8 ((k+1)%n) h=0))/\(j<=k*n+(k+1)%n->Bw n m k h)
theorem Q0S(a:WI (DN n) n t s T)(hk:s.1[k]?=G h)(j:far<n)(on:On h)(f:h.4.length<300)(e:h.batE far≠0):h.bat far=h/\(k≠far->h.1.6 far=[]/\Ar Pl.free (AA (h.1.Q (I far)))=[]):=by
 obtain⟨i,p,o⟩:=a.allOk k h hk;have d:=a.1;by_cases q:k=far
 ·subst q;refine⟨?_,λz=>absurd rfl z⟩;unfold HW.bat;have b:Od h.st (k:Int)=2:=by show(if Bm h.1.3 (k:Int)=true then _ else(2:Int))=2;rw[if_neg (λq=>(AE.1 q).2 o.2.symm)]
  rw[if_neg (by rw[b];simp)]
 ·rcases bat_wait on f o.2 q O with⟨z,-⟩|⟨-,z,z2⟩
  ·exact absurd z e
  ·exact⟨z,λ_=>z2⟩
theorem Q0Q(a:OH1 far (c k) h)(h0:∃i p,HOk h k i p)(e:Ar Pl.free (AA (h.1.Q (I far)))=[]):Z8 far h=0:=by obtain⟨i,p,o⟩:=h0;rw[a.free,List.map_eq_nil_iff]at e;have:=A4 (EY (o.1.q.1 (I far)));rw[e]at this;exact this.symm
theorem Q0L(r:OH1 far (c k) h)(h0:∃i p,HOk h k i p){h1 h2:HW}(d:h1.1=if h.1.6 far=[]then FG h.1 far else h.1)(e:h2.1=I3 h1.1 far):h2.1.6 far=[]/\Z8 far h2<=Z8 far h/\(h.1.6 far=[]->Z8 far h2=Z8 far h-3):=by
 obtain⟨i,p,o⟩:=h0;have a:h1.1.Q=h.1.Q:=by rw[d];split<;>rfl
 have f:Ap (h2.1.Q (I far))=(Ap (h.1.Q (I far))).filter λx=>decide (x.m.1∉h1.1.6 far):=by
  have:h2.1.Q (I far)=Al (h1.1.6 far) (h1.1.Q (I far)):=by rw[e];exact Dx _ _ _
  rw[this,Bz,Nx,a]
 refine⟨by rw[e];exact Ae _ _ _,?_,λl=>?_⟩
 ·unfold Z8;rw[f];exact List.length_filter_le _ _
 ·have b:=EY (o.1.q.1 (I far));have j:h1.1.6 far=((AA (Ap (h.1.Q (I far)))).take 3).map λx=>x.m.1:=by rw[d,if_pos l,<-r.next];exact Ae _ _ _
  unfold Z8;rw[f,<-A4 (Ez b _),Q0a,j,(Q0l (Fu b) 3).2,List.length_drop,A4 b]
theorem Q1x(B:KO n t c R T m w0 (k*n+far) s)(D:t<=113)(hc:∀k,c k<=20)(hk:k<n)(p:far<n)(d:s.1[k]?=G h)(e:h.batE far≠0):KO n t c R T m w0 (k*n+far+1) (s.setH k (h.bat far)):=by
 obtain⟨f,l,i,H,o⟩:=B;have b:=f.1;obtain⟨y,A⟩:=Q0S f d p (o k h d).1 (by have:=i.len f D hc d;omega) e;rw[y,CK d];refine⟨f,l,i,H,λa x hx=>?_⟩;obtain⟨v,a2,a3⟩:=o a x hx;refine⟨v,λq=>?_,λq=>a3 O⟩;by_cases z:a*n+(a+1)%n<k*n+far
 ·exact a2 z
 ·obtain⟨rfl,z2⟩:=(Q0J b.1 b.2 (an _ O) p).1 (show a*n+(a+1)%n=k*n+far by omega);obtain rfl:x=h:=J (hx.symm.trans d);have j:=Q0j b.1 hk;obtain⟨r,u⟩:=A (by rw[<-z2];exact Ne.symm j);rw[<-z2]at r u;have w:=Q0Q (i.1 a x d) (f.allOk a x d) u;exact⟨λ_=>⟨r,O⟩,.inr w⟩
theorem Q1p(hK:KO n t c R T m w0 (k*n+far) s)(P:t<=113)(hc:∀k,c k<=20)(hk:k<n)(hf:far<n)(f:k≠far)(d:s.1[k]?=G h)(hg:s.1[far]?=G g)(e:h.batE far=0):PrOk s k far h g/\KO n t c R T m w0 (k*n+far+1) (Um F s k far h g):=by
 obtain⟨l,r,D,hw,A⟩:=hK;have L:=l.1;have o1:=D.1 k h d;have og:=D.1 far g hg;obtain⟨i,p,o⟩:=l.allOk k h d;have lh:=D.len l P hc d;have lg:=D.len l P hc hg;have b:far=(k+1)%n:=by
  by_cases q:far=(k+1)%n
  ·exact q
  ·exfalso;obtain⟨f1,f2⟩:=o1.freeNo q;rcases bat_wait (A k h d).1 O o.2 f O with⟨-,-,-,-,-,-,z⟩|⟨z,-⟩
   ·rcases z with z|z
    ·exact z f1
    ·exact z f2
   ·exact z e
 have U:OH1 far (c k) h:=by rw[b];exact o1
 have H:PrOk s k far h g:=⟨f,d,hg,(A k h d).1,(A far g hg).1,O,O,λx hx=>by obtain⟨y,V,-,rfl⟩:=CP hx;exact(U.wait y V).2.1,λu x hx=>by simp[Pl.kept,(og.here u x hx).1]⟩;refine⟨H,?_⟩;obtain⟨v1,v2,v3,-,-⟩:=XQ H l P r e;have g1:(s.setH k (h.bat far)).1[far]?=G g:=by rw[Ai d (Ne.symm f)];exact hg
 have g0:((s.setH k (h.bat far)).setH far (Ke F k far h g)).1[k]?=G (h.bat far):=by rw[Ai g1 f];exact Ah d
 have O1:OrdI n c (Kf s k far h) R:=by rw[<-ZP H r e];exact D.sendB l d
 have O2:OrdI n c (KW F s k far h g) R:=by rw[<-ZQ H l P r e];exact O1.deliver v1 hc (j:=0) rfl g1 rfl
 have O3:OrdI n c (Um F s k far h g) R:=by rw[<-ZR];exact O2.deliver v2 hc (j:=0) rfl g0 rfl
 obtain⟨f1,f2,f3,f4,f5⟩:=H.facts l e;obtain⟨-,-,W,M⟩:=H.arr l P r e;have lb:=Q1e h (far:Int);obtain⟨c1,c2,c3⟩:=VE (far:=far) f5 O (show(h.bat far).1.3=(k:Int)by rw[f1];split<;>exact o.2) f O f2;have v:(Ke F k far h g).1.6=g.1.6/\(∀j,Ap ((Ke F k far h g).1.Q (I j))=Ap (g.1.Q (I j)))/\g.4.length<=(Ke F k far h g).4.length:=by
  rcases M with⟨-,q⟩|⟨-,q,q2⟩
  ·rw[q];exact⟨rfl,λ_=>rfl,af _⟩
  ·rw[q,q2];exact⟨rfl,λ_=>rfl,O⟩
 have w1:=Q0h (h':=h.bat far) d;have w2:=Q0h (h':=Ke F k far h g) g1;have w3:=Q0h (h':=ZL far h) g0;have lp:(ZL far h).4.length=(h.bat far).4.length+1:=c2;have a0:MC s.1<MC (Um F s k far h g).1:=by show MC s.1<MC (((s.setH k (h.bat far)).setH far (Ke F k far h g)).setH k (ZL far h)).1;have e1:MC (s.setH k (h.bat far)).1=MC (s.1.set k (h.bat far)):=rfl;have e2:MC ((s.setH k (h.bat far)).setH far (Ke F k far h g)).1=MC ((s.setH k (h.bat far)).1.set far (Ke F k far h g)):=rfl;have e3:MC (((s.setH k (h.bat far)).setH far (Ke F k far h g)).setH k (ZL far h)).1=MC (((s.setH k (h.bat far)).setH far (Ke F k far h g)).1.set k (ZL far h)):=rfl;have:=v.2.2;omega
 refine⟨v3,rfl,O3,O,λa x hx=>?_⟩;have hx:(((s.setH k (h.bat far)).setH far (Ke F k far h g)).setH k (ZL far h)).1[a]?=G x:=hx;have N:∀y:HW,s.1[a]?=G y->a≠k->(∀q:Nat,Bw n q a y->Bw n q a x)->(a*n+(a+1)%n<k*n+far+1->Bw n (m+1) a x/\(w0<MC (Um F s k far h g).1\/Z8 ((a+1)%n) x=0))/\(k*n+far+1<=a*n+(a+1)%n->Bw n m a x):=λy V ha B=>by obtain⟨-,a2,a3⟩:=A a y V;have hz:a*n+(a+1)%n≠k*n+far:=λz=>ha ((Q0J L.1 L.2 (an _ O) hf).1 z).1;exact⟨λq=>⟨B _ (a2 O).1,.inl O⟩,λq=>B _ (a3 O)⟩
 by_cases w:a=k
 ·subst w;rw[Ah g0]at hx;obtain rfl:=J hx;refine⟨c3,λ_=>⟨λ_=>?_,.inl O⟩,λq=>by rw[<-b]at q;omega⟩;rw[<-b];obtain⟨z1,z2,z3⟩:=Q0L U ⟨i,p,o⟩ (h1:=h.bat far) (h2:=ZL far h) f1 c1;refine⟨z1,?_⟩;have S:=D.few l hc d;rw[<-b]at S;by_cases hm:0<m
  ·obtain⟨X,b2⟩:=(A a h d).2.2 (by rw[<-b];omega) hm;rw[<-b]at X b2;have:=z3 X;omega
  ·omega
 ·by_cases ef:a=far
  ·subst ef;rw[Ai g0 w,Ah g1]at hx;obtain rfl:=J hx;exact⟨W,N g hg w (λq B=>B.keep v.1 v.2.1)⟩
  ·rw[Ai g0 w,Ai g1 ef,Ai d w]at hx;exact⟨(A a x hx).1,N x hx w (λq B=>B)⟩
theorem Q1q(i:t<=113)(hc:∀k,c k<=20)(m w0:Nat):KP (DN n) n t T (KO n t c R T m w0) where
 wi:=λj s h=>⟨h.1,h.2.1⟩
 yes:=λk far s h g hk b f a d hg e=>Q1p a i hc hk b f d hg e
 no:=λk far s h hk b a d e=>Q1x a i hc hk b d e
def PO(n t:Nat)(c:Nat->Int)(R:Nat->List Int)(T:List Mg)(m:Nat)(s:WSt):Prop:=WI (DN n) n t s T/\OrdI n c s R/\(0<m->s.2=[]/\∀(k:Nat) (h:HW),s.1[k]?=G h->Bw n m k h)
def FO(n t:Nat)(c:Nat->Int)(R:Nat->List Int)(T:List Mg)(s:WSt):Prop:=WI (DN n) n t s T/\OrdI n c s R/\∀(k:Nat) (h:HW),s.1[k]?=G h->Z8 ((k+1)%n) h=0
theorem Q1y(h:PO n t c R T 10 s):FO n t c R T s:=⟨h.1,h.2.1,λk x hx=>by obtain⟨-,q⟩:=(h.2.2 O).2 k x hx O;omega⟩
def JOr(n t:Nat)(c:Nat->Int)(R:Nat->List Int)(T:List Mg)(m:Nat)(s1:WSt)(s:WSt):Prop:=OrdI n c s R/\MC s1.1<=MC s.1/\(0<m->s.2=[]/\∀(k:Nat) (h:HW),s.1[k]?=G h->Bw n m k h)
theorem JOr.set{h':HW}(b:JOr n t c R T m s1 s)(hk:s.1[k]?=G h)(f:OrdI n c (s.setH k h') R)(i:h'.4=h.4)(d:Bw n m k h->Bw n m k h'):JOr n t c R T m s1 (s.setH k h'):=by
 refine⟨f,?_,λq=>⟨(b.2.2 q).1,λa x hx=>?_⟩⟩
 ·have:=Q0h (h':=h') hk;rw[i]at this;have e:MC (s.setH k h').1=MC (s.1.set k h'):=rfl;have:=b.2.1;omega
 ·by_cases e:a=k
  ·subst e;rw[Ah hk]at hx;obtain rfl:=J hx;exact d ((b.2.2 q).2 a h hk)
  ·rw[Ai hk e]at hx;exact(b.2.2 q).2 a x hx
theorem Q0Y(y:t<=113)(hc:∀k,c k<=20):Sy n (PO n t c R T) (FO n t c R T):=λm s1 u=>by
 have d:=u.1;have f:=d.1;have C:=QE (nms:=DN n) (n:=n) (T:=T) (s0:=s1) y;refine⟨d.allOk,λj s=>XR (DN n) n t T s1 j s/\JOr n t c R T m s1 s,λs=>Xx (DN n) n t T s1 s/\JOr n t c R T m s1 s,KO n t c R T m (MC s1.1),_,JD y (Q1q y hc m (MC s1.1)) (λj s h=>C.1 j s h.1) (λj s h a hk=>C.2 j s h a.1 hk)
  (λj s h a hk v=>⟨C.3 j s h a.1 hk v,a.2.set hk (a.2.1.cut a.1.1 hk _) rfl (λq=>q.keep rfl (λ_=>rfl))⟩)
  (λj s h A a hk v=>⟨C.4 j s h A a.1 hk v,a.2.set hk (a.2.1.anew a.1.1 hk A) rfl (λq=>q.keep rfl (λj=>IY _))⟩)
  (λs a=>⟨C.5 s a.1,a.2⟩) (λs q r hs e=>?_) (λs b e=>?_),⟨Q0r d,u.2.1,af _,u.2.2⟩,λs' L=>?_⟩
 ·have hm:¬0<m:=λz=>by rw[(hs.2.2.2 z).1]at e;cases e
  obtain⟨k,h,i,p,l,D⟩:=C.6 s q r hs.1 e;refine⟨k,h,i,p,l,D,hs.2.1.deliver hs.1.1 hc (j:=0) (by rw[e];rfl) l.2 l.1,?_,λz=>absurd z hm⟩;obtain⟨h',H,M⟩:=Q0M s 0 k h q;rw[H];have:=Q0h (h':=h') l.2;have N:MC (s.setH k h').1=MC (s.1.set k h'):=rfl;have:=hs.2.2.1;omega
 ·refine⟨b.1.1,e,b.2.1,b.2.2.1,λk h hk=>?_⟩;obtain⟨h0,w⟩:=d.get (b.1.1.lt hk);exact⟨(b.1.2 k h0 h w hk).1,λq=>O,λ_ q=>(b.2.2.2 q).2 k h hk q⟩
 ·obtain⟨o,x,B,P,b⟩:=L;have lt:∀(k:Nat) (h:HW),s'.1[k]?=G h->k*n+(k+1)%n<n*n:=λk h hk=>Q1k f.1 f.2 (o.lt hk) (an _ O);refine⟨o.allOk,⟨o,B,λ_=>⟨x,λk h hk=>((b k h hk).2.1 (lt k h hk)).1⟩⟩,λe=>⟨o,B,λk h hk=>?_⟩⟩;rcases((b k h hk).2.1 (lt k h hk)).2 with q|q
  ·omega
  ·exact q
theorem Q0R{L:Nat->Prop}{W:Nat}{w:World}(d:WM L W s w)(a:WI (DN n) n t s T)(f:OrdI n c s R)(j:t<=113)(hc:∀k,c k<=20):Calls Tryz.prog 10 #[.pointer (G ⟨W,0,none⟩),.int .i64 10] w λe w'=>e=.returned (.tuple #[])/\Hid (∃s',FO n t c R T s'/\WM L W s' w'/\Only w w' (λb=>¬L b)):=by
 refine(Qt (Q0Y j hc) d (s:=s) ⟨a,f,λq=>O⟩ 10 O).mono ?_;rintro e w' ⟨i,hs⟩;obtain⟨s',h1,h2⟩:=hs.o;refine⟨i,Aa ⟨s',?_,h2⟩⟩;rcases h1 with h1|h1
 ·exact Q1y h1
 ·exact h1.1
end
end
end Go.Proofs.YtgkcfpbndgfdlaaGreatDoor
