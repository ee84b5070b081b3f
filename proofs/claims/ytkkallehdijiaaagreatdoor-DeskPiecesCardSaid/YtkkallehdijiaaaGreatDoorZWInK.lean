import Derived.Test.YtkkallehdijiaaaGreatDoorZWRot
set_option linter.all false
set_option maxHeartbeats 0
set_option maxRecDepth 99999
open Option renaming some->F,none->J
open Go.IntKind renaming i64->I,wrap_i64->ah
open List renaming getElem?_eq_some_iff->G,length_append->E,getElem?_eq_getElem->Y,append_assoc->ad,length_take->ai,take_append_drop->aj,pairwise_append->ak,mem_append->am,length_eq_zero_iff->au,getElem?_append_right->aw,length_drop->ay,getElem?_append_left->az,mem_iff_getElem->aB,mem_singleton->aH,take_of_length_le->aI,length_singleton->aJ,pairwise_map->aK,mem_map->aM,mem_append_left->aO,drop_eq_getElem_cons->aS,mem_append_right->bb,pairwise_flatten->bc,mem_of_getElem?->bd,drop_append_of_le_length->be,length_set->bf,mem_filter->bg,perm_append_singleton->bh,getElem_drop->bi,getElem_take->bj,getLast?_eq_some_iff->bk,mem_of_find?_eq_some->bl,pairwise_iff_getElem->bo,take_add_one->bp,mem_flatMap->br,append_nil->bt,drop_eq_nil_of_le->bu,length_eq_one_iff->bv,drop_drop->bA,getElem?_of_mem->bB,mem_cons->bD,pairwise_cons->bF,drop_sublist->bJ,take_sublist->bK,flatMap_def->bL,length_cons->bM,perm_middle->bN,find?_some->bR,length_map->bS,length_nil->bT,nil_append->bU,nodup_nil->bW
open Go.Value renaming int->aa,string->ac,slice->aV,tuple->aW,func->ba,agg->ca
open Option.some renaming inj->ab
open Nat renaming le_refl->ae,add_mul->bw,one_mul->bx,le_succ->bO,zero_le->bP,sub_self->cb
open Bool renaming false->af,true->aP
open Classical renaming propDecidable->ag,byContradiction->aQ
open Go.RowKit.Below renaming refl->al,drew->ax
open Go.Proofs.Tryz renaming prog->an,ntmps238->bC,func238->bG,underlying99->bI
open Int renaming toNat_natCast->ao,le_refl->aX,le_trans->aY,le_of_lt->bH
open Or renaming inl->aq,inr->aC
open Go.Ending renaming returned->av
open Go renaming World->aA,Calls->aN
open Go.RowKit renaming Below->aD
open List.Perm renaming append_left->aE,trans->bQ,refl->bV,append_right->cc
open Decidable renaming decide->aF
open Go.Proofs.YtkkallehdijiaaaGreatDoor.HW renaming arr->aG,wr_yes->aR,wr_torn->bq,wr_no->bE,get->bX,put->bY,back->bZ,arrE->cd,came->ce,bat->cf,commE->cg
open Go.RowKit.Hid renaming out->aL
open Sum renaming inl->aT,inr->aU
open Go.Fn renaming func->aZ
open Sum.inr renaming inj->bz
open Go.Proofs.Tryz
namespace Go.Proofs.YtkkallehdijiaaaGreatDoor
section
open Go.RowKit Go.Maps
theorem Jc(x y:Int):aF (Fg x y<0)=aF (x<y):=by
 unfold Fg;apply decide_eq_decide.2;split
 ·constructor<;>intro _<;>omega
 ·split
  ·constructor<;>intro _<;>omega
  ·constructor<;>intro _<;>omega
theorem Q5(x y:Mg)(w:aA):aN an 132 #[x.val,y.val] w λe w'=>e=av (aa I (Fg x.1 y.1))/\aD w.1.size w w':=by have HC:=Aa (λ(W:aA)=>Uu x.1 y.1 W);have a:aD w.1.size w ((w.alloc (.cells #[aa I x.1,aa I x.2,ac x.3,ac x.4,aa I x.5] 95)).alloc (.cells #[aa I y.1,aa I y.2,ac y.3,ac y.4,aa I y.5] 95)):=((al _ _).alloc (ae _) _).alloc oS _;have b:=Aa a;clear a;simp only[Mg.val];go_enter func132,ntmps132;go_wp2_with(go_at_call 133;go_must(refine(HC.o _).mono ?_);rintro e w1 ⟨rfl,rfl⟩;refine aL ?_);refine Aa ?_;go_wp2;go_ret;exact⟨rfl,b.o⟩
abbrev Df(l:List Mg):Prop:=l.Pairwise λa b=>a.1<=b.1
theorem Ru{i:List Mg}{x:Mg}(d:Df i)(c:Nat)(g:∀(k:Nat) y,i[k]?=F y->k<c->y.1<=x.1)(h:∀(k:Nat) y,i[k]?=F y->c<=k->x.1<=y.1):Df (i.take c++x::i.drop c)/\(i.take c++x::i.drop c).Perm (x::i):=by
 constructor
 ·unfold Df;rw[ak,bF];have e:∀y∈i.drop c,x.1<=y.1:=λy a=>by obtain⟨k,hk,rfl⟩:=aB.1 a;rw[bi];exact h (c+k) _ (Y _) O
  have f:∀y∈i.take c,y.1<=x.1:=λy a=>by obtain⟨k,hk,rfl⟩:=aB.1 a;rw[ai]at hk;rw[bj];exact g k _ (Y O) O
  refine⟨d.sublist (bK _ _),⟨e,d.sublist (bJ _ _)⟩,λy a z b=>?_⟩;rcases bD.1 b with rfl|b
  ·exact f y a
  ·exact aY (f y a) (e z b)
 ·refine(bN).trans ?_;rw[aj]
theorem Dy{S:List Mg}(h:Df S){k j:Nat}{x y:Mg}(hx:S[k]?=F x)(c:S[j]?=F y)(b:k<=j):x.1<=y.1:=by
 obtain⟨hk,rfl⟩:=G.1 hx;obtain⟨hj,rfl⟩:=G.1 c;rcases Nat.lt_or_eq_of_le b with a|a
 ·exact bo.1 h k j hk hj a
 ·subst a;exact aX _
theorem Y0(w0:aA)(g base n p a m b:Nat)(P j9 R:List Mg)(x:Mg)(w:aA)(h:RW w0 g base n p (P++x::(j9++R)) w)(hn:n<=100000)(ha:P.length=a)(hm:m=a+1)(hb:m+j9.length=b)(hY:Df j9):aN an 238 #[aV (F ⟨g,0,J⟩) n p,aa I (a:Int),aa I (m:Int),aa I (b:Int),ba (aZ 132) #[] #[]] w λe w'=>e=av (aW #[])/\Hid (∃Z,RW w0 g base n p (P++Z++R) w'/\Df Z/\Z.Perm (x::j9)):=by
 have M:=h.2;simp only[E,bM]at M;have a5:Hid ((P++x::(j9++R))[a]?=F x):=Aa (Je _ _ _ ha);have a6:Hid (∀(k:Nat) y,j9[k]?=F y->(P++x::(j9++R))[m+k]?=F y):=Aa (λk y l=>by have hk:=(G.1 l).1;rw[aw O,show m+k-P.length=k+1 by omega,List.getElem?_cons_succ,az hk];exact l);have a0:=Aa h;have HY:=Aa hY;have Q:=Aa hb;have HP:=Aa ha;have b6:b<=n:=O;have a9:m<=b:=O;have b3:a<b:=O;have wm:I.wrap ((m:Int)-(a:Int))=1:=by rw[ah];omega
 have D:=Aa hm;have b5:a<n:=O;clear h hY hb ha M hm;go_enter bG,bC;go_wp2;go_loopg[10,11] (b-m) (λgk vi vj wr=>∃i j:Nat,vi=aa I i/\vj=aa I j/\m<=i/\i<=j/\j<=b/\j-i<=gk/\Hid ((∀(k:Nat) y,j9[k]?=F y->m+k<i->y.1<x.1)/\(∀(k:Nat) y,j9[k]?=F y->j<=m+k->x.1<=y.1))/\Hid (RW w0 g base n p (P++x::(j9++R)) wr));case atStart=>exact⟨m,b,rfl,rfl,ae _,a9,ae _,ae _,Aa ⟨λk y _ hk=>O,λk y l hk=>by have:=(G.1 l).1;have:=Q.o;omega⟩,a0⟩
 case round=>
  clear a0;obtain⟨i,j,rfl,rfl,b0,a8,a4,a7,X,HW⟩:=hrel;by_cases c0:i<j
  ·obtain⟨q,Hq⟩:∃q:Nat,Hid ((i+j)/2=q):=⟨_,rfl⟩;have c4:((i:Int)+(j:Int))/2=(q:Int):=by have:=Hq.o;omega
   have c2:i<=q:=by have:=Hq.o;omega
   have c3:q<j:=by have:=Hq.o;omega
   have c5:q<n:=O;obtain⟨y,l⟩:∃y,j9[q-m]?=F y:=⟨_,Y (by have:=Q.o;omega)⟩;have H:=a6.o (q-m) y l;rw[show m+(q-m)=q by omega]at H;have d:Hid (∀V,aD wr.1.size wr V->((V.cell? ⟨g,q*5,J⟩=F (aa I y.1)/\V.cell? ⟨g,q*5+1,J⟩=F (aa I y.2)/\V.cell? ⟨g,q*5+2,J⟩=F (ac y.3)/\V.cell? ⟨g,q*5+3,J⟩=F (ac y.4)/\V.cell? ⟨g,q*5+4,J⟩=F (aa I y.5))/\(V.cell? ⟨g,a*5,J⟩=F (aa I x.1)/\V.cell? ⟨g,a*5+1,J⟩=F (aa I x.2)/\V.cell? ⟨g,a*5+2,J⟩=F (ac x.3)/\V.cell? ⟨g,a*5+3,J⟩=F (ac x.4)/\V.cell? ⟨g,a*5+4,J⟩=F (aa I x.5)))/\aD wr.1.size wr V):=Aa (λV hB=>⟨⟨(HW.o.below hB).at_ H,(HW.o.below hB).at_ a5.o⟩,hB⟩);obtain⟨z,Hz⟩:∃z,Hid (Fg y.1 x.1=z):=⟨_,rfl⟩;have r:Hid (∀V:aA,aN an 132 #[ca #[aa I y.1,aa I y.2,ac y.3,ac y.4,aa I y.5],ca #[aa I x.1,aa I x.2,ac x.3,ac x.4,aa I x.5]] V λe w'=>e=av (aa I z)/\aD V.1.size V w'):=Aa (λV=>by rw[<-Hz.o];exact Q5 y x V);have t:=Jc y.1 x.1;rw[Hz.o]at t;obtain⟨⟨⟨d0,d1,d2,d3,d4⟩,e0,e1,e2,e3,e4⟩,-⟩:=d.o wr (al _ _);by_cases hc:y.1<x.1
   ·have hz:aF (z<0)=aP:=by rw[t];simpa using hc
    have HN:Hid (∀(k:Nat) y',j9[k]?=F y'->m+k<q+1->y'.1<x.1):=Aa (λk y' W hk=>by have:=Dy HY.o W l O;omega);clear l H t hc;go_wp2;go_region_held3(λV=>((V.cell? ⟨g,q*5,J⟩=F (aa I y.1)/\V.cell? ⟨g,q*5+1,J⟩=F (aa I y.2)/\V.cell? ⟨g,q*5+2,J⟩=F (ac y.3)/\V.cell? ⟨g,q*5+3,J⟩=F (ac y.4)/\V.cell? ⟨g,q*5+4,J⟩=F (aa I y.5))/\(V.cell? ⟨g,a*5,J⟩=F (aa I x.1)/\V.cell? ⟨g,a*5+1,J⟩=F (aa I x.2)/\V.cell? ⟨g,a*5+2,J⟩=F (ac x.3)/\V.cell? ⟨g,a*5+3,J⟩=F (ac x.4)/\V.cell? ⟨g,a*5+4,J⟩=F (aa I x.5)))/\aD wr.1.size wr V)
     ((refine d.o _ ?_;repeat(first|assumption|exact al _ _|refine ax ?_)))
     ((go_at_call 132;refine(r.o _).mono ?_;rintro e w5 ⟨rfl,h5⟩;have U:=Ab (B:=wr.1.size) (w:=wr) (by repeat(first|assumption|exact al _ _|refine ax ?_)) (by first|exact ae _|assumption) h5));all_goals
     have S:=Aa (HW.o.below U);clear h5 r d d0 d1 d2 d3 d4 e0 e1 e2 e3 e4 HW;go_wp2;go_roundg (gk-1);case rel=>exact⟨q+1,j,by go_num,rfl,O,O,a4,O,Aa ⟨HN.o,X.o.2⟩,S⟩
     case measure=>omega
   ·have hz:aF (z<0)=af:=by rw[t];simpa using hc
    have HN:Hid (∀(k:Nat) y',j9[k]?=F y'->q<=m+k->x.1<=y'.1):=Aa (λk y' W hk=>by have:=Dy HY.o l W O;omega);clear l H t hc;go_wp2;go_region_held3(λV=>((V.cell? ⟨g,q*5,J⟩=F (aa I y.1)/\V.cell? ⟨g,q*5+1,J⟩=F (aa I y.2)/\V.cell? ⟨g,q*5+2,J⟩=F (ac y.3)/\V.cell? ⟨g,q*5+3,J⟩=F (ac y.4)/\V.cell? ⟨g,q*5+4,J⟩=F (aa I y.5))/\(V.cell? ⟨g,a*5,J⟩=F (aa I x.1)/\V.cell? ⟨g,a*5+1,J⟩=F (aa I x.2)/\V.cell? ⟨g,a*5+2,J⟩=F (ac x.3)/\V.cell? ⟨g,a*5+3,J⟩=F (ac x.4)/\V.cell? ⟨g,a*5+4,J⟩=F (aa I x.5)))/\aD wr.1.size wr V)
     ((refine d.o _ ?_;repeat(first|assumption|exact al _ _|refine ax ?_)))
     ((go_at_call 132;refine(r.o _).mono ?_;rintro e w5 ⟨rfl,h5⟩;have U:=Ab (B:=wr.1.size) (w:=wr) (by repeat(first|assumption|exact al _ _|refine ax ?_)) (by first|exact ae _|assumption) h5));all_goals
     have S:=Aa (HW.o.below U);clear h5 r d d0 d1 d2 d3 d4 e0 e1 e2 e3 e4 HW;go_wp2;go_roundg (gk-1);case rel=>exact⟨i,q,rfl,rfl,O,O,O,O,Aa ⟨X.o.1,HN.o⟩,S⟩
     case measure=>omega
  ·obtain rfl:i=j:=O;have L:Hid (Df (j9.take (i-m)++x::j9.drop (i-m))/\(j9.take (i-m)++x::j9.drop (i-m)).Perm (x::j9)):=Aa (Ru HY.o (i-m) (λk y l hk=>bH (X.o.1 k y l O)) (λk y l hk=>X.o.2 k y l O));have wi:I.wrap ((i:Int)-1)=((i-1:Nat):Int):=by rw[ah];have:=D.o;omega
   have a3:a<=i-1:=by have:=D.o;omega
   have a1:Hid (RW w0 g base n p (P++(j9.take (a-a)++x::j9.drop (a-a))++R) wr):=Aa (by rw[cb];simpa using HW.o);obtain⟨N,u⟩:∃N:Nat,Hid (i-1=N):=⟨_,rfl⟩;rw[u.o]at wi a3;have b7:N<b:=by have:=u.o;omega
   have a2:Hid (i-m=N-a):=Aa (by have:=u.o;have:=D.o;omega);rw[a2.o]at L;clear X HW a7 b0 a8 a4 u;go_wp2;go_loopw[13] (λv wr=>∃k:Nat,v=aa I k/\a<=k/\k<=N/\Hid (RW w0 g base n p (P++(j9.take (k-a)++x::j9.drop (k-a))++R) wr)) (λv _=>N-(intOf v).toNat);case atStart=>exact⟨a,rfl,ae _,a3,a1⟩
   case round=>
    clear a1;obtain⟨k,rfl,b4,b8,HW⟩:=hrel;by_cases b2:k<N
    ·obtain⟨y,l⟩:∃y,j9[k-a]?=F y:=⟨_,Y (by have:=Q.o;have:=D.o;omega)⟩;obtain⟨c,s⟩:∃c:Nat,Hid (k+1=c):=⟨_,rfl⟩;have wk:I.wrap ((k:Int)+1)=(c:Int):=by rw[ah,<-s.o];omega
     have b1:c<n:=by have:=s.o;omega
     have b9:k<n:=O;have c1:k<c:=by have:=s.o;omega
     have eD:j9.drop (k-a)=y::j9.drop (k-a+1):=by obtain⟨h1,rfl⟩:=G.1 l;exact aS h1
     have eT:j9.take (k-a+1)=j9.take (k-a)++[y]:=by rw[bp,l];rfl
     obtain⟨r1,r2,r3⟩:=Ji (P++j9.take (k-a)) [] (j9.drop (k-a+1)++R) x y (i:=k) (j:=c) (by have h1:=HP.o;have h2:=(G.1 l).1;rw[E,ai];omega) (by have h1:=HP.o;have h2:=(G.1 l).1;have h3:=s.o;rw[E,ai,bT];omega);have e1:P++(j9.take (k-a)++x::j9.drop (k-a))++R=(P++j9.take (k-a))++x::([]++y::(j9.drop (k-a+1)++R)):=by rw[eD];simp
     have e2:P++(j9.take (k-a+1)++x::j9.drop (k-a+1))++R=(P++j9.take (k-a))++y::([]++x::(j9.drop (k-a+1)++R)):=by rw[eT];simp
     have A:=HW.o;rw[e1]at A;have HF:Hid (RW w0 g base n p (P++(j9.take (k+1-a)++x::j9.drop (k+1-a))++R) (Do (Do wr g (k*5) y) g (c*5) x).drew):=Aa (by have:=(A.swap r1 r2).drew;rw[r3,<-e2]at this;rw[show k+1-a=k-a+1 by omega];exact this);obtain⟨d0,d1,d2,d3,d4⟩:=A.drew.at_ r1;obtain⟨e0,e1,e2,e3,e4⟩:=A.drew.at_ r2;obtain⟨p0,p1,p2,p3,p4⟩:=A.at_ r1;obtain⟨q0,q1,q2,q3,q4⟩:=A.at_ r2;have fr:=A.drew.free;have f:=A.free;have f0:wr.drew.frozen? ⟨g,k*5,J⟩=af:=fr _;have g0:wr.drew.frozen? ⟨g,c*5,J⟩=af:=fr _;have s0:wr.frozen? ⟨g,k*5,J⟩=af:=f _;have t0:wr.frozen? ⟨g,c*5,J⟩=af:=f _;have f1:wr.drew.frozen? ⟨g,k*5+1,J⟩=af:=fr _;have g1:wr.drew.frozen? ⟨g,c*5+1,J⟩=af:=fr _;have s1:wr.frozen? ⟨g,k*5+1,J⟩=af:=f _;have t1:wr.frozen? ⟨g,c*5+1,J⟩=af:=f _;have f2:wr.drew.frozen? ⟨g,k*5+2,J⟩=af:=fr _;have g2:wr.drew.frozen? ⟨g,c*5+2,J⟩=af:=fr _;have s2:wr.frozen? ⟨g,k*5+2,J⟩=af:=f _;have t2:wr.frozen? ⟨g,c*5+2,J⟩=af:=f _;have f3:wr.drew.frozen? ⟨g,k*5+3,J⟩=af:=fr _;have g3:wr.drew.frozen? ⟨g,c*5+3,J⟩=af:=fr _;have s3:wr.frozen? ⟨g,k*5+3,J⟩=af:=f _;have t3:wr.frozen? ⟨g,c*5+3,J⟩=af:=f _;have f4:wr.drew.frozen? ⟨g,k*5+4,J⟩=af:=fr _;have g4:wr.drew.frozen? ⟨g,c*5+4,J⟩=af:=fr _;have s4:wr.frozen? ⟨g,k*5+4,J⟩=af:=f _;have t4:wr.frozen? ⟨g,c*5+4,J⟩=af:=f _;have h4:¬k*5=c*5:=O;have c6:¬c*5=k*5:=O;have h6:¬k*5=c*5+1:=O;have c7:¬c*5+1=k*5:=O;have h7:¬k*5=c*5+2:=O;have c8:¬c*5+2=k*5:=O;have h8:¬k*5=c*5+3:=O;have c9:¬c*5+3=k*5:=O;have h9:¬k*5=c*5+4:=O;have d5:¬c*5+4=k*5:=O;have i0:¬k*5+1=c*5:=O;have d6:¬c*5=k*5+1:=O;have i1:¬k*5+1=c*5+1:=O;have d7:¬c*5+1=k*5+1:=O;have i2:¬k*5+1=c*5+2:=O;have d8:¬c*5+2=k*5+1:=O;have i3:¬k*5+1=c*5+3:=O;have d9:¬c*5+3=k*5+1:=O;have i4:¬k*5+1=c*5+4:=O;have e5:¬c*5+4=k*5+1:=O;have i5:¬k*5+2=c*5:=O;have e6:¬c*5=k*5+2:=O;have i6:¬k*5+2=c*5+1:=O;have e7:¬c*5+1=k*5+2:=O;have i7:¬k*5+2=c*5+2:=O;have e8:¬c*5+2=k*5+2:=O;have i8:¬k*5+2=c*5+3:=O;have e9:¬c*5+3=k*5+2:=O;have n24:¬k*5+2=c*5+4:=O;have f5:¬c*5+4=k*5+2:=O;have i9:¬k*5+3=c*5:=O;have f6:¬c*5=k*5+3:=O;have j0:¬k*5+3=c*5+1:=O;have f7:¬c*5+1=k*5+3:=O;have j1:¬k*5+3=c*5+2:=O;have f8:¬c*5+2=k*5+3:=O;have j2:¬k*5+3=c*5+3:=O;have f9:¬c*5+3=k*5+3:=O;have j3:¬k*5+3=c*5+4:=O;have g5:¬c*5+4=k*5+3:=O;have j4:¬k*5+4=c*5:=O;have g6:¬c*5=k*5+4:=O;have j5:¬k*5+4=c*5+1:=O;have g7:¬c*5+1=k*5+4:=O;have j6:¬k*5+4=c*5+2:=O;have g8:¬c*5+2=k*5+4:=O;have j7:¬k*5+4=c*5+3:=O;have g9:¬c*5+3=k*5+4:=O;have j8:¬k*5+4=c*5+4:=O;have h0:¬c*5+4=k*5+4:=O;clear fr f;clear A l eD eT r1 r2 r3 e1 e2 HW;go_wp2;go_region;all_goals
      go_wp2;go_roundw;case rel=>refine⟨k+1,by have:=s.o;go_num,O,O,?_⟩;unfold Do at HF;exact HF
      case measure=>have:=s.o;simp[intOf];omega
    ·obtain rfl:k=N:=O;go_wp2;go_returns;exact⟨rfl,Aa ⟨_,HW.o,L.o⟩⟩
theorem LW(T:List Mg){i j:Nat}(h:i≠j)(x y:Mg):OB T j i y x=OB T i j x y:=by unfold OB;rw[List.set_comm _ _ h]
theorem WA(w0:aA)(g base n r a m b:Nat)(P X R:List Mg)(x:Mg)(w:aA)(h:RW w0 g base n r (P++(X++x::R)) w)(hn:n<=100000)(ha:P.length=a)(hm:a+X.length=m)(hb:b=m+1)(h2:2<=X.length)(hX:Df X):aN an 238 #[aV (F ⟨g,0,J⟩) n r,aa I (a:Int),aa I (m:Int),aa I (b:Int),ba (aZ 132) #[] #[]] w λe w'=>e=av (aW #[])/\Hid (∃Z,RW w0 g base n r (P++Z++R) w'/\Df Z/\Z.Perm (x::X)):=by
 have H:=h.2;simp only[E,bM]at H;have a2:Hid ((P++(X++x::R))[m]?=F x):=Aa (by rw[<-ad];exact Je _ _ _ (by rw[E];omega));have a3:Hid (∀(k:Nat) y,X[k]?=F y->(P++(X++x::R))[a+k]?=F y):=Aa (λk y p=>by have hk:=(G.1 p).1;rw[aw O,show a+k-P.length=k by omega,az hk];exact p);have U:=Aa h;have HX:=Aa hX;have t:=Aa hm;have HP:=Aa ha;have b0:b<=n:=O;have b6:m<n:=O;have a5:a<=m:=O;have wm:I.wrap ((m:Int)-(a:Int))=((m-a:Nat):Int):=by rw[ah];omega
 have wb:I.wrap ((b:Int)-(m:Int))=1:=by rw[ah];omega
 have en:(((m-a:Nat):Int)==1)=af:=by rw[beq_eq_false_iff_ne];omega
 obtain⟨ma,a4⟩:∃ma:Nat,Hid (m-a=ma):=⟨_,rfl⟩;rw[a4.o]at wm en;clear h hX hm ha H h2 hb;go_enter bG,bC;go_wp2;go_loopg[14,15] (m-a) (λgk vi vj wr=>∃i j:Nat,vi=aa I i/\vj=aa I j/\a<=i/\i<=j/\j<=m/\j-i<=gk/\Hid ((∀(k:Nat) y,X[k]?=F y->a+k<i->y.1<=x.1)/\(∀(k:Nat) y,X[k]?=F y->j<=a+k->x.1<y.1))/\Hid (RW w0 g base n r (P++(X++x::R)) wr));case atStart=>exact⟨a,m,rfl,rfl,ae _,a5,ae _,ae _,Aa ⟨λk y _ hk=>O,λk y p hk=>by have:=(G.1 p).1;have:=t.o;omega⟩,U⟩
 case round=>
  clear U;obtain⟨i,j,rfl,rfl,b5,b1,a0,a6,S,HW⟩:=hrel;by_cases b4:i<j
  ·obtain⟨q,Hq⟩:∃q:Nat,Hid ((i+j)/2=q):=⟨_,rfl⟩;have c0:((i:Int)+(j:Int))/2=(q:Int):=by have:=Hq.o;omega
   have b8:i<=q:=by have:=Hq.o;omega
   have b9:q<j:=by have:=Hq.o;omega
   have c1:q<n:=O;obtain⟨y,p⟩:∃y,X[q-a]?=F y:=⟨_,Y (by have:=t.o;omega)⟩;have D:=a3.o (q-a) y p;rw[show a+(q-a)=q by omega]at D;have d:Hid (∀V,aD wr.1.size wr V->((V.cell? ⟨g,m*5,J⟩=F (aa I x.1)/\V.cell? ⟨g,m*5+1,J⟩=F (aa I x.2)/\V.cell? ⟨g,m*5+2,J⟩=F (ac x.3)/\V.cell? ⟨g,m*5+3,J⟩=F (ac x.4)/\V.cell? ⟨g,m*5+4,J⟩=F (aa I x.5))/\(V.cell? ⟨g,q*5,J⟩=F (aa I y.1)/\V.cell? ⟨g,q*5+1,J⟩=F (aa I y.2)/\V.cell? ⟨g,q*5+2,J⟩=F (ac y.3)/\V.cell? ⟨g,q*5+3,J⟩=F (ac y.4)/\V.cell? ⟨g,q*5+4,J⟩=F (aa I y.5)))/\aD wr.1.size wr V):=Aa (λV hB=>⟨⟨(HW.o.below hB).at_ a2.o,(HW.o.below hB).at_ D⟩,hB⟩);obtain⟨z,Hz⟩:∃z,Hid (Fg x.1 y.1=z):=⟨_,rfl⟩;have s:Hid (∀V:aA,aN an 132 #[ca #[aa I x.1,aa I x.2,ac x.3,ac x.4,aa I x.5],ca #[aa I y.1,aa I y.2,ac y.3,ac y.4,aa I y.5]] V λe w'=>e=av (aa I z)/\aD V.1.size V w'):=Aa (λV=>by rw[<-Hz.o];exact Q5 x y V);have u:=Jc x.1 y.1;rw[Hz.o]at u;obtain⟨⟨⟨d0,d1,d2,d3,d4⟩,e0,e1,e2,e3,e4⟩,-⟩:=d.o wr (al _ _);by_cases hc:x.1<y.1
   ·have hz:aF (z<0)=aP:=by rw[u];simpa using hc
    have HN:Hid (∀(k:Nat) y',X[k]?=F y'->q<=a+k->x.1<y'.1):=Aa (λk y' N hk=>by have:=Dy HX.o p N O;omega);clear p D u hc;go_wp2;go_region_held3(λV=>((V.cell? ⟨g,m*5,J⟩=F (aa I x.1)/\V.cell? ⟨g,m*5+1,J⟩=F (aa I x.2)/\V.cell? ⟨g,m*5+2,J⟩=F (ac x.3)/\V.cell? ⟨g,m*5+3,J⟩=F (ac x.4)/\V.cell? ⟨g,m*5+4,J⟩=F (aa I x.5))/\(V.cell? ⟨g,q*5,J⟩=F (aa I y.1)/\V.cell? ⟨g,q*5+1,J⟩=F (aa I y.2)/\V.cell? ⟨g,q*5+2,J⟩=F (ac y.3)/\V.cell? ⟨g,q*5+3,J⟩=F (ac y.4)/\V.cell? ⟨g,q*5+4,J⟩=F (aa I y.5)))/\aD wr.1.size wr V)
     ((refine d.o _ ?_;repeat(first|assumption|exact al _ _|refine ax ?_)))
     ((go_at_call 132;refine(s.o _).mono ?_;rintro e w5 ⟨rfl,h5⟩;have M:=Ab (B:=wr.1.size) (w:=wr) (by repeat(first|assumption|exact al _ _|refine ax ?_)) (by first|exact ae _|assumption) h5));all_goals
     have L:=Aa (HW.o.below M);clear h5 s d d0 d1 d2 d3 d4 e0 e1 e2 e3 e4 HW;go_wp2;go_roundg (gk-1);case rel=>exact⟨i,q,rfl,rfl,O,O,O,O,Aa ⟨S.o.1,HN.o⟩,L⟩
     case measure=>omega
   ·have hz:aF (z<0)=af:=by rw[u];simpa using hc
    have HN:Hid (∀(k:Nat) y',X[k]?=F y'->a+k<q+1->y'.1<=x.1):=Aa (λk y' N hk=>by have:=Dy HX.o N p O;omega);clear p D u hc;go_wp2;go_region_held3(λV=>((V.cell? ⟨g,m*5,J⟩=F (aa I x.1)/\V.cell? ⟨g,m*5+1,J⟩=F (aa I x.2)/\V.cell? ⟨g,m*5+2,J⟩=F (ac x.3)/\V.cell? ⟨g,m*5+3,J⟩=F (ac x.4)/\V.cell? ⟨g,m*5+4,J⟩=F (aa I x.5))/\(V.cell? ⟨g,q*5,J⟩=F (aa I y.1)/\V.cell? ⟨g,q*5+1,J⟩=F (aa I y.2)/\V.cell? ⟨g,q*5+2,J⟩=F (ac y.3)/\V.cell? ⟨g,q*5+3,J⟩=F (ac y.4)/\V.cell? ⟨g,q*5+4,J⟩=F (aa I y.5)))/\aD wr.1.size wr V)
     ((refine d.o _ ?_;repeat(first|assumption|exact al _ _|refine ax ?_)))
     ((go_at_call 132;refine(s.o _).mono ?_;rintro e w5 ⟨rfl,h5⟩;have M:=Ab (B:=wr.1.size) (w:=wr) (by repeat(first|assumption|exact al _ _|refine ax ?_)) (by first|exact ae _|assumption) h5));all_goals
     have L:=Aa (HW.o.below M);clear h5 s d d0 d1 d2 d3 d4 e0 e1 e2 e3 e4 HW;go_wp2;go_roundg (gk-1);case rel=>exact⟨q+1,j,by go_num,rfl,O,O,a0,O,Aa ⟨HN.o,S.o.2⟩,L⟩
     case measure=>omega
  ·obtain rfl:i=j:=O;have Q:Hid (Df (X.take (i-a)++x::X.drop (i-a))/\(X.take (i-a)++x::X.drop (i-a)).Perm (x::X)):=Aa (Ru HX.o (i-a) (λk y p hk=>S.o.1 k y p O) (λk y p hk=>bH (S.o.2 k y p O)));have W:Hid (RW w0 g base n r (P++(X.take (m-a)++x::X.drop (m-a))++R) wr):=Aa (by rw[aI (by have:=t.o;omega),bu (by have:=t.o;omega)];simpa using HW.o);clear S HW a6;go_wp2;go_loopw[17] (λv wr=>∃k:Nat,v=aa I k/\i<=k/\k<=m/\Hid (RW w0 g base n r (P++(X.take (k-a)++x::X.drop (k-a))++R) wr)) (λv _=>(intOf v).toNat-i);case atStart=>exact⟨m,rfl,a0,ae _,W⟩
   case round=>
    clear W;obtain⟨k,rfl,a9,b2,HW⟩:=hrel;by_cases a8:i<k
    ·obtain⟨c,l⟩:∃c:Nat,Hid (c+1=k):=⟨k-1,Aa O⟩;obtain⟨y,p⟩:∃y,X[c-a]?=F y:=⟨_,Y (by have:=t.o;have:=l.o;omega)⟩;have wk:I.wrap ((k:Int)-1)=(c:Int):=by have:=l.o;rw[ah];omega
     have a7:c<n:=by have:=l.o;omega
     have b3:k<n:=O;have b7:c<k:=by have:=l.o;omega
     have a1:k-a=c-a+1:=by have:=l.o;omega
     have eD:X.drop (c-a)=y::X.drop (c-a+1):=by obtain⟨h1,rfl⟩:=G.1 p;exact aS h1
     have eT:X.take (c-a+1)=X.take (c-a)++[y]:=by rw[bp,p];rfl
     obtain⟨r1,r2,r3⟩:=Ji (P++X.take (c-a)) [] (X.drop (c-a+1)++R) y x (i:=c) (j:=k) (by have h1:=HP.o;have h2:=(G.1 p).1;have h3:=l.o;rw[E,ai];omega) (by have h1:=HP.o;have h2:=(G.1 p).1;have h3:=l.o;rw[E,ai,bT];omega);have e1:P++(X.take (k-a)++x::X.drop (k-a))++R=(P++X.take (c-a))++y::([]++x::(X.drop (c-a+1)++R)):=by rw[a1,eT];simp
     have e2:P++(X.take (c-a)++x::X.drop (c-a))++R=(P++X.take (c-a))++x::([]++y::(X.drop (c-a+1)++R)):=by rw[eD];simp
     have A:=HW.o;rw[e1]at A;have HF:Hid (RW w0 g base n r (P++(X.take (c-a)++x::X.drop (c-a))++R) (Do (Do wr g (k*5) y) g (c*5) x).drew):=Aa (by have:=(A.swap r2 r1).drew;rw[LW _ O,r3,<-e2]at this;exact this);obtain⟨d0,d1,d2,d3,d4⟩:=A.drew.at_ r2;obtain⟨e0,e1,e2,e3,e4⟩:=A.drew.at_ r1;obtain⟨p0,p1,p2,p3,p4⟩:=A.at_ r2;obtain⟨q0,q1,q2,q3,q4⟩:=A.at_ r1;have fr:=A.drew.free;have f:=A.free;have f0:wr.drew.frozen? ⟨g,k*5,J⟩=af:=fr _;have g0:wr.drew.frozen? ⟨g,c*5,J⟩=af:=fr _;have s0:wr.frozen? ⟨g,k*5,J⟩=af:=f _;have t0:wr.frozen? ⟨g,c*5,J⟩=af:=f _;have f1:wr.drew.frozen? ⟨g,k*5+1,J⟩=af:=fr _;have g1:wr.drew.frozen? ⟨g,c*5+1,J⟩=af:=fr _;have s1:wr.frozen? ⟨g,k*5+1,J⟩=af:=f _;have t1:wr.frozen? ⟨g,c*5+1,J⟩=af:=f _;have f2:wr.drew.frozen? ⟨g,k*5+2,J⟩=af:=fr _;have g2:wr.drew.frozen? ⟨g,c*5+2,J⟩=af:=fr _;have s2:wr.frozen? ⟨g,k*5+2,J⟩=af:=f _;have t2:wr.frozen? ⟨g,c*5+2,J⟩=af:=f _;have f3:wr.drew.frozen? ⟨g,k*5+3,J⟩=af:=fr _;have g3:wr.drew.frozen? ⟨g,c*5+3,J⟩=af:=fr _;have s3:wr.frozen? ⟨g,k*5+3,J⟩=af:=f _;have t3:wr.frozen? ⟨g,c*5+3,J⟩=af:=f _;have f4:wr.drew.frozen? ⟨g,k*5+4,J⟩=af:=fr _;have g4:wr.drew.frozen? ⟨g,c*5+4,J⟩=af:=fr _;have s4:wr.frozen? ⟨g,k*5+4,J⟩=af:=f _;have t4:wr.frozen? ⟨g,c*5+4,J⟩=af:=f _;have g7:¬k*5=c*5:=O;have c2:¬c*5=k*5:=O;have g8:¬k*5=c*5+1:=O;have c3:¬c*5+1=k*5:=O;have g9:¬k*5=c*5+2:=O;have c4:¬c*5+2=k*5:=O;have h0:¬k*5=c*5+3:=O;have c5:¬c*5+3=k*5:=O;have h4:¬k*5=c*5+4:=O;have c6:¬c*5+4=k*5:=O;have h6:¬k*5+1=c*5:=O;have c7:¬c*5=k*5+1:=O;have h7:¬k*5+1=c*5+1:=O;have c8:¬c*5+1=k*5+1:=O;have h8:¬k*5+1=c*5+2:=O;have c9:¬c*5+2=k*5+1:=O;have h9:¬k*5+1=c*5+3:=O;have d5:¬c*5+3=k*5+1:=O;have i0:¬k*5+1=c*5+4:=O;have d6:¬c*5+4=k*5+1:=O;have i1:¬k*5+2=c*5:=O;have d7:¬c*5=k*5+2:=O;have i2:¬k*5+2=c*5+1:=O;have d8:¬c*5+1=k*5+2:=O;have i3:¬k*5+2=c*5+2:=O;have d9:¬c*5+2=k*5+2:=O;have i4:¬k*5+2=c*5+3:=O;have e5:¬c*5+3=k*5+2:=O;have n24:¬k*5+2=c*5+4:=O;have e6:¬c*5+4=k*5+2:=O;have i5:¬k*5+3=c*5:=O;have e7:¬c*5=k*5+3:=O;have i6:¬k*5+3=c*5+1:=O;have e8:¬c*5+1=k*5+3:=O;have i7:¬k*5+3=c*5+2:=O;have e9:¬c*5+2=k*5+3:=O;have i8:¬k*5+3=c*5+3:=O;have f5:¬c*5+3=k*5+3:=O;have i9:¬k*5+3=c*5+4:=O;have f6:¬c*5+4=k*5+3:=O;have j0:¬k*5+4=c*5:=O;have f7:¬c*5=k*5+4:=O;have j1:¬k*5+4=c*5+1:=O;have f8:¬c*5+1=k*5+4:=O;have j2:¬k*5+4=c*5+2:=O;have f9:¬c*5+2=k*5+4:=O;have j3:¬k*5+4=c*5+3:=O;have g5:¬c*5+3=k*5+4:=O;have j4:¬k*5+4=c*5+4:=O;have g6:¬c*5+4=k*5+4:=O;clear fr f;clear A p eD eT r1 r2 r3 e1 e2 HW a1;go_wp2;go_region;all_goals
      go_wp2;go_roundw;case rel=>refine⟨c,by first|rfl|go_num,by have:=l.o;omega,by have:=l.o;omega,?_⟩;unfold Do at HF;exact HF
      case measure=>have:=l.o;simp[intOf];omega
    ·obtain rfl:i=k:=O;go_wp2;go_returns;exact⟨rfl,Aa ⟨_,HW.o,Q.o⟩⟩
def Jm(w0:aA)(g base n a:Nat)(P X b R:List Mg)(w':aA):Prop:=∃Z,RW w0 g base n a (P++(Z++R)) w'/\Df Z/\Z.Perm (X++b)
theorem YY{b d e c Z1 Z2:List Mg}(l:Df (b++d))(m:Df (e++c))(j:∀x∈b,∀y∈c,x.1<=y.1)(k:∀x∈e,∀y∈d,x.1<=y.1)(n:Df Z1)(i:Z1.Perm (b++e))(o:Df Z2)(h:Z2.Perm (d++c)):Df (Z1++Z2)/\(Z1++Z2).Perm ((b++d)++(e++c)):=by
 obtain⟨-,-,f⟩:=ak.1 l;obtain⟨-,-,g⟩:=ak.1 m;constructor
 ·refine ak.2 ⟨n,o,λx hx y a=>?_⟩;rcases am.1 (i.mem_iff.1 hx)with hx|hx
  ·rcases am.1 (h.mem_iff.1 a)with a|a
   ·exact f x hx y a
   ·exact j x hx y a
  ·rcases am.1 (h.mem_iff.1 a)with a|a
   ·exact k x hx y a
   ·exact g x hx y a
 ·refine(i.append h).trans ?_;rw[ad,ad];refine aE b ?_;rw[<-ad,<-ad];exact cc c List.perm_append_comm
structure Q1f(X c:List Mg)(a m b mid s e:Nat):Prop where
 asl:a<=s
 sm:s<=m
 me:m<=e
 eb:e<=b
 mid:s+(e-m)=mid
 le:∀x∈X.take (s-a),∀y∈c.drop (e-m),x.1<=y.1
 lt:∀y∈c.take (e-m),∀x∈X.drop (s-a),y.1<=x.1
theorem YX{X H:List Mg}(t:Df X)(u:Df H){a m b mid s e lo q:Nat}(D:a+X.length=m)(A:m+H.length=b)(v:(a+b)/2=mid)(p:(mid<m/\lo=mid+m-b/\q=mid)\/(m<=mid/\lo=a/\q=m))(hs:lo<=s/\s<=q)(B:mid+m-s=e)(w:∀c x y,lo<=c->c<s->X[c-a]?=F x->H[mid+m-1-c-m]?=F y->x.1<=y.1)(z:∀c x y,s<=c->c<q->X[c-a]?=F x->H[mid+m-1-c-m]?=F y->y.1<x.1):Q1f X H a m b mid s e:=by
 have asl:a<=s:=by rcases p with⟨d,f,g⟩|⟨d,f,g⟩<;>omega
 have sm:s<=m:=by rcases p with⟨d,f,g⟩|⟨d,f,g⟩<;>omega
 have me:m<=e:=by rcases p with⟨d,f,g⟩|⟨d,f,g⟩<;>omega
 have eb:e<=b:=by rcases p with⟨d,f,g⟩|⟨d,f,g⟩<;>omega
 refine⟨asl,sm,me,eb,by rcases p with⟨d,f,g⟩|⟨d,f,g⟩<;>omega,λx hx y r=>?_,λy r x hx=>?_⟩
 ·obtain⟨i,n,rfl⟩:=aB.1 hx;obtain⟨j,o,rfl⟩:=aB.1 r;rw[ai]at n;rw[ay]at o;rw[bj,bi];have l:lo<s:=by rcases p with⟨d,f,g⟩|⟨d,f,g⟩<;>omega
  obtain⟨x',h⟩:∃x',X[s-1-a]?=F x':=⟨_,Y O⟩;obtain⟨y',k⟩:∃y',H[e-m]?=F y':=⟨_,Y O⟩;have g1:=Dy t (Y (show i<X.length by omega)) h O;have g2:=Dy u k (Y (show e-m+j<H.length by omega)) O;have g3:=w (s-1) x' y' O O h (by rw[show mid+m-1-(s-1)-m=e-m by omega];exact k);exact aY g1 (aY g3 g2)
 ·obtain⟨i,n,rfl⟩:=aB.1 hx;obtain⟨j,o,rfl⟩:=aB.1 r;rw[ay]at n;rw[ai]at o;rw[bj,bi];have l:s<q:=by rcases p with⟨d,f,g⟩|⟨d,f,g⟩<;>omega
  obtain⟨x',h⟩:∃x',X[s-a]?=F x':=⟨_,Y O⟩;obtain⟨y',k⟩:∃y',H[e-1-m]?=F y':=⟨_,Y O⟩;have g1:=Dy t h (Y (show s-a+i<X.length by omega)) O;have g2:=Dy u (Y (show j<H.length by omega)) k O;have g3:=z s x' y' (ae _) l h (by rw[show mid+m-1-s-m=e-1-m by omega];exact k);exact aY g2 (aY (bH g3) g1)
def Xs(w0:aA)(g base n c N:Nat):Prop:=∀(P X d R:List Mg) (a m b:Nat) (w:aA),X.length+d.length<N->P.length=a->a+X.length=m->m+d.length=b->0<X.length->0<d.length->Df X->Df d->RW w0 g base n c (P++(X++(d++R))) w->aN an 238 #[aV (F ⟨g,0,J⟩) n c,aa I (a:Int),aa I (m:Int),aa I (b:Int),ba (aZ 132) #[] #[]] w λe w'=>e=av (aW #[])/\Hid (Jm w0 g base n c P X d R w')
structure Q1Q(w0:aA)(g base n c:Nat)(P d f h i R:List Mg)(a m b mid s e:Nat)(wr:aA):Prop where
 rot:s<m->m<e->aN an 270 #[aV (F ⟨g,0,J⟩) n c,aa I (s:Int),aa I (m:Int),aa I (e:Int),ba (aZ 132) #[] #[]] wr λj w'=>j=av (aW #[])/\Hid (RW w0 g base n c (P++(d++(h++(f++(i++R))))) w')
 no:¬(s<m/\m<e)->RW w0 g base n c (P++(d++(h++(f++(i++R))))) wr
 one:∀w1,RW w0 g base n c (P++(d++(h++(f++(i++R))))) w1->a<s->s<mid->aN an 238 #[aV (F ⟨g,0,J⟩) n c,aa I (a:Int),aa I (s:Int),aa I (mid:Int),ba (aZ 132) #[] #[]] w1 λj w'=>j=av (aW #[])/\Hid (Jm w0 g base n c P d h (f++(i++R)) w')
 one0:∀w1,RW w0 g base n c (P++(d++(h++(f++(i++R))))) w1->¬(a<s/\s<mid)->Jm w0 g base n c P d h (f++(i++R)) w1
 two:∀w1,Jm w0 g base n c P d h (f++(i++R)) w1->mid<e->e<b->aN an 238 #[aV (F ⟨g,0,J⟩) n c,aa I (mid:Int),aa I (e:Int),aa I (b:Int),ba (aZ 132) #[] #[]] w1 λj w'=>j=av (aW #[])/\Hid (Jm w0 g base n c P (d++f) (h++i) R w')
 two0:∀w1,Jm w0 g base n c P d h (f++(i++R)) w1->¬(mid<e/\e<b)->Jm w0 g base n c P (d++f) (h++i) R w1
theorem WB{w0:aA}{g base n c:Nat}{P X a0 R:List Mg}{a m b mid s e:Nat}{wr:aA}(S:n<=100000)(h:RW w0 g base n c (P++(X++(a0++R))) wr)(x:Xs w0 g base n c (X.length+a0.length))(y:Df X)(z:Df a0)(M:P.length=a)(hm:a+X.length=m)(hb:m+a0.length=b)(w:2<=X.length/\2<=a0.length)(A:(a+b)/2=mid)(N:Q1f X a0 a m b mid s e):Q1Q w0 g base n c P (X.take (s-a)) (X.drop (s-a)) (a0.take (e-m)) (a0.drop (e-m)) R a m b mid s e wr:=by
 obtain⟨asl,sm,me,eb,Q,t,u⟩:=N;have l1:(X.take (s-a)).length=s-a:=by rw[ai];omega
 have l2:(X.drop (s-a)).length=m-s:=by rw[ay];omega
 have l3:(a0.take (e-m)).length=e-m:=by rw[ai];omega
 have l4:(a0.drop (e-m)).length=b-e:=by rw[ay];omega
 have H:X=X.take (s-a)++X.drop (s-a):=(aj _ _).symm;have L:a0=a0.take (e-m)++a0.drop (e-m):=(aj _ _).symm;generalize X.take (s-a)=A1 at*;generalize X.drop (s-a)=A2 at*;generalize a0.take (e-m)=B1 at*;generalize a0.drop (e-m)=B2 at*;subst H L;have l:=ak.1 y;have p:=ak.1 z;have d:∀Z1 Z2 w',Df Z1->Z1.Perm (A1++B1)->Df Z2->Z2.Perm (A2++B2)->RW w0 g base n c (P++(Z1++(Z2++R))) w'->Jm w0 g base n c P (A1++A2) (B1++B2) R w':=λZ1 Z2 w' s1 W s2 p2 r=>by obtain⟨f1,f2⟩:=YY y z t u s1 W s2 p2;exact⟨Z1++Z2,by simpa[ad]using r,f1,f2⟩
 refine⟨λf B=>?_,λU=>?_,λw1 r f B=>?_,λw1 r q=>?_,λw1 r f B=>?_,λw1 r q=>?_⟩
 ·have:=Q0w w0 g base n c s m e (P++A1) A2 B1 (B2++R) wr (ba (aZ 132) #[] #[]) (by simpa[ad]using h) S (by rw[E];omega) O O O O;refine this.mono ?_;rintro D w' ⟨rfl,r⟩;exact⟨rfl,Aa (by simpa[ad]using r.o)⟩
 ·have v:RW w0 g base n c (P++(A1++(A2++(B1++(B2++R))))) wr:=by simpa[ad]using h
  by_cases f:s<m
  ·have:B1=[]:=au.1 O;subst this;simpa using v
  ·have:A2=[]:=au.1 O;subst this;simpa using v
 ·refine x P A1 B1 (A2++(B2++R)) a s mid w1 ?_ M O O O O l.1 p.1 r;simp only[E]at w⊢;omega
 ·by_cases f:a<s
  ·have:B1=[]:=au.1 O;subst this;exact⟨A1,by simpa using r,l.1,oS⟩
  ·have:A1=[]:=au.1 O;subst this;exact⟨B1,by simpa using r,p.1,oS⟩
 ·obtain⟨Z1,j,k,i⟩:=r;have V:=i.length_eq;rw[E]at V;refine(x (P++Z1) A2 B2 R mid e b w1 ?_ (by rw[E];omega) O O O O l.2.1 p.2.1 (by simpa[ad]using j)).mono ?_
  ·simp only[E]at w⊢;omega
  ·rintro D w' ⟨rfl,r⟩;obtain⟨Z2,t1,t2,t3⟩:=r.o;exact⟨rfl,Aa (d Z1 Z2 w' k i t2 t3 (by simpa[ad]using t1))⟩
 ·obtain⟨Z1,j,k,i⟩:=r;by_cases f:mid<e
  ·have:B2=[]:=au.1 O;subst this;exact d Z1 A2 w1 k i l.2.1 oS (by simpa using j)
  ·have:A2=[]:=au.1 O;subst this;exact d Z1 B2 w1 k i p.2.1 oS (by simpa using j)
theorem YZ(w0:aA)(g base n v a m b:Nat)(P X f6 R:List Mg)(w:aA)(h:RW w0 g base n v (P++(X++(f6++R))) w)(hn:n<=100000)(ha:P.length=a)(hm:a+X.length=m)(hb:m+f6.length=b)(D:2<=X.length/\2<=f6.length)(hX:Df X)(hY:Df f6)(hH:Xs w0 g base n v (X.length+f6.length)):aN an 238 #[aV (F ⟨g,0,J⟩) n v,aa I (a:Int),aa I (m:Int),aa I (b:Int),ba (aZ 132) #[] #[]] w λe w'=>e=av (aW #[])/\Hid (Jm w0 g base n v P X f6 R w'):=by
 have a0:=h.2;simp only[E]at a0;have b2:Hid (∀(k:Nat) y,X[k]?=F y->(P++(X++(f6++R)))[a+k]?=F y):=Aa (λk y L=>by have hk:=(G.1 L).1;rw[aw O,show a+k-P.length=k by omega,az hk];exact L);have b3:Hid (∀(k:Nat) y,f6[k]?=F y->(P++(X++(f6++R)))[m+k]?=F y):=Aa (λk y L=>by have hk:=(G.1 L).1;rw[aw O,aw O,show m+k-P.length-X.length=k by omega,az hk];exact L);have b1:=Aa h;have HX:=Aa hX;have HY:=Aa hY;have a1:=Aa hm;have a2:=Aa hb;have b0:=Aa hH;have HP:=Aa ha;have H2:=Aa D;have d8:b<=n:=O;have d7:a+2<=m:=O;have e6:m+2<=b:=O;obtain⟨ma,b5⟩:∃ma:Nat,Hid (m-a=ma):=⟨_,rfl⟩;obtain⟨bm,b4⟩:∃bm:Nat,Hid (b-m=bm):=⟨_,rfl⟩;have wm:I.wrap ((m:Int)-(a:Int))=(ma:Int):=by have:=b5.o;rw[ah];omega
 have wb:I.wrap ((b:Int)-(m:Int))=(bm:Int):=by have:=b4.o;rw[ah];omega
 have en:((ma:Int)==1)=af:=by have:=b5.o;rw[beq_eq_false_iff_ne];omega
 have d6:((bm:Int)==1)=af:=by have:=b4.o;rw[beq_eq_false_iff_ne];omega
 obtain⟨mid,l⟩:∃mid:Nat,Hid ((a+b)/2=mid):=⟨_,rfl⟩;have c9:((a:Int)+(b:Int))/2=(mid:Int):=by have:=l.o;omega
 have c0:a<mid:=by have:=l.o;omega
 have c5:mid<b:=by have:=l.o;omega
 obtain⟨nn,Q⟩:∃nn:Nat,Hid (mid+m=nn):=⟨_,rfl⟩;have f3:I.wrap ((mid:Int)+(m:Int))=(nn:Int):=by have:=Q.o;rw[ah];omega
 obtain⟨pp,b6⟩:∃pp:Nat,Hid (mid+m-1=pp):=⟨_,rfl⟩;have f4:I.wrap ((nn:Int)-1)=(pp:Int):=by have:=Q.o;have:=b6.o;rw[ah];omega
 obtain⟨lo,H,Hl⟩:∃lo H:Nat,Hid ((mid<m/\lo=mid+m-b/\H=mid)\/(m<=mid/\lo=a/\H=m)):=by
  by_cases q:mid<m
  ·exact⟨mid+m-b,mid,Aa (aq ⟨q,rfl,rfl⟩)⟩
  ·exact⟨a,m,Aa (aC ⟨O,rfl,rfl⟩)⟩
 have a7:lo<=H:=by have:=l.o;rcases Hl.o with⟨N,q2,q3⟩|⟨N,q2,q3⟩<;>omega
 clear h hX hY hm hb ha a0 D hH;go_enter bG,bC
 go_upto_if 140 with fail
 go_cut[20,21] (λc6 c7 wx=>c6=aa I (lo:Int)/\c7=aa I (H:Int)/\wx=w);case first=>
  by_cases q:mid<m
  ·have N:(mid:Int)<(m:Int):=O;have c8:I.wrap ((nn:Int)-(b:Int))=(lo:Int):=by have:=Q.o;have:=l.o;rw[ah];rcases Hl.o with⟨N,q2,q3⟩|⟨N,q2,q3⟩<;>omega
   have S:Hid (H=mid):=Aa (by rcases Hl.o with⟨N,q2,q3⟩|⟨N,q2,q3⟩<;>omega);go_wp2_with fail;go_meet;case rel=>exact⟨by first|rfl|rw[c8],by rw[S.o],rfl⟩
  ·have N:¬(mid:Int)<(m:Int):=O;have S:Hid (H=m/\lo=a):=Aa (by rcases Hl.o with⟨N,q2,q3⟩|⟨N,q2,q3⟩<;>omega);go_wp2_with fail;go_meet;case rel=>exact⟨by rw[S.o.2],by rw[S.o.1],rfl⟩
 case rest=>
  obtain⟨rfl,rfl,rfl⟩:=hcut;go_wp2;go_loopg[20,21] (H-lo) (λgk vi vj wr=>∃i j:Nat,vi=aa I i/\vj=aa I j/\lo<=i/\i<=j/\j<=H/\j-i<=gk/\Hid ((∀c x y,lo<=c->c<i->X[c-a]?=F x->f6[mid+m-1-c-m]?=F y->x.1<=y.1)/\(∀c x y,j<=c->c<H->X[c-a]?=F x->f6[mid+m-1-c-m]?=F y->y.1<x.1))/\Hid (RW w0 g base n v (P++(X++(f6++R))) wr));case atStart=>exact⟨lo,H,rfl,rfl,ae _,a7,ae _,ae _,Aa ⟨λc x y _ _=>O,λc x y _ _=>O⟩,b1⟩
  case round=>
   clear b1;obtain⟨i,j,rfl,rfl,b9,d9,b7,b8,HI,HW⟩:=hrel;by_cases e5:i<j
   ·obtain⟨q,Hq⟩:∃q:Nat,Hid ((i+j)/2=q):=⟨_,rfl⟩;have e9:((i:Int)+(j:Int))/2=(q:Int):=by have:=Hq.o;omega
    have e7:i<=q:=by have:=Hq.o;omega
    have e8:q<j:=by have:=Hq.o;omega
    have p:Hid (a<=q/\q<m/\m<=mid+m-1-q/\mid+m-1-q<b):=Aa (by have:=l.o;rcases Hl.o with⟨N,q2,q3⟩|⟨N,q2,q3⟩<;>omega);have f0:q<n:=by have:=p.o;omega
    obtain⟨pq,a5⟩:∃pq:Nat,Hid (mid+m-1-q=pq):=⟨_,rfl⟩;have f5:I.wrap ((pp:Int)-(q:Int))=(pq:Int):=by have:=a5.o;have:=b6.o;have:=p.o;rw[ah];omega
    have d5:pq<n:=by have:=a5.o;have:=p.o;omega
    obtain⟨x,hx⟩:∃x,X[q-a]?=F x:=⟨_,Y (by have:=a1.o;have:=p.o;omega)⟩;obtain⟨y,L⟩:∃y,f6[mid+m-1-q-m]?=F y:=⟨_,Y (by have:=a2.o;have:=p.o;omega)⟩;have U:=b2.o (q-a) x hx;rw[show a+(q-a)=q by have:=p.o;omega]at U;have W:=b3.o _ y L;rw[show m+(mid+m-1-q-m)=pq by have:=a5.o;have:=p.o;omega]at W;have d:Hid (∀V,aD wr.1.size wr V->((V.cell? ⟨g,pq*5,J⟩=F (aa I y.1)/\V.cell? ⟨g,pq*5+1,J⟩=F (aa I y.2)/\V.cell? ⟨g,pq*5+2,J⟩=F (ac y.3)/\V.cell? ⟨g,pq*5+3,J⟩=F (ac y.4)/\V.cell? ⟨g,pq*5+4,J⟩=F (aa I y.5))/\(V.cell? ⟨g,q*5,J⟩=F (aa I x.1)/\V.cell? ⟨g,q*5+1,J⟩=F (aa I x.2)/\V.cell? ⟨g,q*5+2,J⟩=F (ac x.3)/\V.cell? ⟨g,q*5+3,J⟩=F (ac x.4)/\V.cell? ⟨g,q*5+4,J⟩=F (aa I x.5)))/\aD wr.1.size wr V):=Aa (λV hB=>⟨⟨(HW.o.below hB).at_ W,(HW.o.below hB).at_ U⟩,hB⟩);obtain⟨z,Hz⟩:∃z,Hid (Fg y.1 x.1=z):=⟨_,rfl⟩;have A:Hid (∀V:aA,aN an 132 #[ca #[aa I y.1,aa I y.2,ac y.3,ac y.4,aa I y.5],ca #[aa I x.1,aa I x.2,ac x.3,ac x.4,aa I x.5]] V λe w'=>e=av (aa I z)/\aD V.1.size V w'):=Aa (λV=>by rw[<-Hz.o];exact Q5 y x V);have M:=Jc y.1 x.1;rw[Hz.o]at M;obtain⟨⟨⟨d0,d1,d2,d3,d4⟩,e0,e1,e2,e3,e4⟩,-⟩:=d.o wr (al _ _);by_cases hc:y.1<x.1
    ·have hz:aF (z<0)=aP:=by rw[M];simpa using hc
     have HN:Hid (∀c x' y',q<=c->c<H->X[c-a]?=F x'->f6[mid+m-1-c-m]?=F y'->y'.1<x'.1):=Aa (λc x' y' h1 D a8 a9=>by have hq:=p.o;have g1:=Dy HX.o hx a8 O;have g2:=Dy HY.o a9 L O;omega);clear hx L U W M hc;go_wp2;go_region_held3(λV=>((V.cell? ⟨g,pq*5,J⟩=F (aa I y.1)/\V.cell? ⟨g,pq*5+1,J⟩=F (aa I y.2)/\V.cell? ⟨g,pq*5+2,J⟩=F (ac y.3)/\V.cell? ⟨g,pq*5+3,J⟩=F (ac y.4)/\V.cell? ⟨g,pq*5+4,J⟩=F (aa I y.5))/\(V.cell? ⟨g,q*5,J⟩=F (aa I x.1)/\V.cell? ⟨g,q*5+1,J⟩=F (aa I x.2)/\V.cell? ⟨g,q*5+2,J⟩=F (ac x.3)/\V.cell? ⟨g,q*5+3,J⟩=F (ac x.4)/\V.cell? ⟨g,q*5+4,J⟩=F (aa I x.5)))/\aD wr.1.size wr V)
      ((refine d.o _ ?_;repeat(first|assumption|exact al _ _|refine ax ?_)))
      ((go_at_call 132;refine(A.o _).mono ?_;rintro e w5 ⟨rfl,h5⟩;have a6:=Ab (B:=wr.1.size) (w:=wr) (by repeat(first|assumption|exact al _ _|refine ax ?_)) (by first|exact ae _|assumption) h5));all_goals
      have a3:=Aa (HW.o.below a6);clear h5 A d d0 d1 d2 d3 d4 e0 e1 e2 e3 e4 HW;go_wp2;go_roundg (gk-1);case rel=>exact⟨i,q,rfl,rfl,O,O,O,O,Aa ⟨HI.o.1,HN.o⟩,a3⟩
      case measure=>omega
    ·have hz:aF (z<0)=af:=by rw[M];simpa using hc
     have HN:Hid (∀c x' y',lo<=c->c<q+1->X[c-a]?=F x'->f6[mid+m-1-c-m]?=F y'->x'.1<=y'.1):=Aa (λc x' y' h1 D a8 a9=>by have hq:=p.o;have g1:=Dy HX.o a8 hx O;have g2:=Dy HY.o L a9 O;omega);clear hx L U W M hc;go_wp2;go_region_held3(λV=>((V.cell? ⟨g,pq*5,J⟩=F (aa I y.1)/\V.cell? ⟨g,pq*5+1,J⟩=F (aa I y.2)/\V.cell? ⟨g,pq*5+2,J⟩=F (ac y.3)/\V.cell? ⟨g,pq*5+3,J⟩=F (ac y.4)/\V.cell? ⟨g,pq*5+4,J⟩=F (aa I y.5))/\(V.cell? ⟨g,q*5,J⟩=F (aa I x.1)/\V.cell? ⟨g,q*5+1,J⟩=F (aa I x.2)/\V.cell? ⟨g,q*5+2,J⟩=F (ac x.3)/\V.cell? ⟨g,q*5+3,J⟩=F (ac x.4)/\V.cell? ⟨g,q*5+4,J⟩=F (aa I x.5)))/\aD wr.1.size wr V)
      ((refine d.o _ ?_;repeat(first|assumption|exact al _ _|refine ax ?_)))
      ((go_at_call 132;refine(A.o _).mono ?_;rintro e w5 ⟨rfl,h5⟩;have a6:=Ab (B:=wr.1.size) (w:=wr) (by repeat(first|assumption|exact al _ _|refine ax ?_)) (by first|exact ae _|assumption) h5));all_goals
      have a3:=Aa (HW.o.below a6);clear h5 A d d0 d1 d2 d3 d4 e0 e1 e2 e3 e4 HW;go_wp2;go_roundg (gk-1);case rel=>exact⟨q+1,j,by go_num,rfl,O,O,b7,O,Aa ⟨HN.o,HI.o.2⟩,a3⟩
      case measure=>omega
   obtain rfl:i=j:=O;obtain⟨s,rfl⟩:∃s,i=s:=⟨_,rfl⟩;obtain⟨e,He⟩:∃e:Nat,Hid (mid+m-i=e):=⟨_,rfl⟩;have HC:=Aa (YX HX.o HY.o a1.o a2.o l.o Hl.o ⟨b9,b7⟩ He.o HI.o.1 HI.o.2);have we:I.wrap ((nn:Int)-(i:Int))=(e:Int):=by have:=Q.o;have:=He.o;have:=HC.o.2;rw[ah];omega
   have u:=Aa (WB hn HW.o b0.o HX.o HY.o HP.o a1.o a2.o H2.o l.o HC.o);have a4:Hid (X.take (i-a)++X.drop (i-a)=X/\f6.take (e-m)++f6.drop (e-m)=f6):=Aa ⟨aj _ _,aj _ _⟩;have r:Hid (∀w',Jm w0 g base n v P (X.take (i-a)++X.drop (i-a)) (f6.take (e-m)++f6.drop (e-m)) R w'->Hid (Jm w0 g base n v P X f6 R w')):=Aa (λw' q=>by rw[a4.o.1,a4.o.2]at q;exact Aa q);clear HI HW b8 b2 b3 b0 HX HY a4;by_cases c1:i<m
   ·by_cases c2:m<e
    ·have z1:(i:Int)<(m:Int):=O;have z2:(m:Int)<(e:Int):=O;have z3:(i:Int)<(mid:Int):=by have:=HC.o.5;omega
     have z4:(mid:Int)<(e:Int):=by have:=HC.o.5;omega
     have HR:=Aa (u.o.1 c1 c2);go_wp2_with(go_at_call 270;go_must(refine HR.o.mono ?_);rintro e w1 ⟨rfl,h1⟩;refine aL ?_);refine Aa ?_;by_cases c3:a<i
     ·have z5:(a:Int)<(i:Int):=O;have t:=Aa (u.o.3 w1 h1.o c3 O);clear h1 HR;go_wp2_with(go_at_call 238;go_must(refine t.o.mono ?_);rintro e w2 ⟨rfl,D⟩;refine aL ?_);refine Aa ?_;by_cases c4:e<b
      ·have z6:(e:Int)<(b:Int):=O;have f:=Aa (u.o.5 w2 D.o O c4);clear D t;go_wp2_with(go_at_call 238;go_must(refine f.o.mono ?_);rintro e w3 ⟨rfl,h3⟩;refine aL ?_);refine Aa ?_;go_wp2;go_end0;exact⟨rfl,r.o _ h3.o⟩
      ·have z6:¬(e:Int)<(b:Int):=O;have f:=Aa (u.o.6 w2 D.o (λq=>c4 q.2));clear D t;go_wp2;go_end0;exact⟨rfl,r.o _ f.o⟩
     ·have z5:¬(a:Int)<(i:Int):=O;have t:=Aa (u.o.4 w1 h1.o (λq=>c3 q.1));clear h1 HR;by_cases c4:e<b
      ·have z6:(e:Int)<(b:Int):=O;have f:=Aa (u.o.5 w1 t.o O c4);clear t;go_wp2_with(go_at_call 238;go_must(refine f.o.mono ?_);rintro e w3 ⟨rfl,h3⟩;refine aL ?_);refine Aa ?_;go_wp2;go_end0;exact⟨rfl,r.o _ h3.o⟩
      ·have z6:¬(e:Int)<(b:Int):=O;have f:=Aa (u.o.6 w1 t.o (λq=>c4 q.2));clear t;go_wp2;go_end0;exact⟨rfl,r.o _ f.o⟩
    ·have z1:(i:Int)<(m:Int):=O;have z2:¬(m:Int)<(e:Int):=O;have z3:¬(i:Int)<(mid:Int):=by have:=HC.o.5;have:=HC.o.3;omega
     have z4:(mid:Int)<(e:Int):=by have:=HC.o.5;have:=HC.o.3;omega
     have z6:(e:Int)<(b:Int):=by have:=HC.o.3;omega
     have t:=Aa (u.o.4 wr (u.o.2 (λq=>c2 q.2)) (λq=>absurd q.2 O));have f:=Aa (u.o.5 wr t.o O O);clear t;by_cases z5:(a:Int)<(i:Int)
     ·skip;go_wp2_with(go_at_call 238;go_must(refine f.o.mono ?_);rintro e w3 ⟨rfl,h3⟩;refine aL ?_);refine Aa ?_;go_wp2;go_end0;exact⟨rfl,r.o _ h3.o⟩
     ·skip;go_wp2_with(go_at_call 238;go_must(refine f.o.mono ?_);rintro e w3 ⟨rfl,h3⟩;refine aL ?_);refine Aa ?_;go_wp2;go_end0;exact⟨rfl,r.o _ h3.o⟩
   ·have z1:¬(i:Int)<(m:Int):=O;have z4:¬(mid:Int)<(e:Int):=by have:=HC.o.5;have:=HC.o.3;have:=HC.o.2;omega
    have z5:(a:Int)<(i:Int):=O;by_cases c2:i<mid
    ·have z3:(i:Int)<(mid:Int):=O;have t:=Aa (u.o.3 wr (u.o.2 (λq=>c1 q.1)) O c2);go_wp2_with(go_at_call 238;go_must(refine t.o.mono ?_);rintro e w2 ⟨rfl,D⟩;refine aL ?_);refine Aa ?_;have f:=Aa (u.o.6 w2 D.o (λq=>absurd q.1 O));clear D t;go_wp2;go_end0;exact⟨rfl,r.o _ f.o⟩
    ·have z3:¬(i:Int)<(mid:Int):=O;have t:=Aa (u.o.4 wr (u.o.2 (λq=>c1 q.1)) (λq=>c2 q.2));have f:=Aa (u.o.6 wr t.o (λq=>absurd q.1 O));clear t;go_wp2;go_end0;exact⟨rfl,r.o _ f.o⟩
theorem YW(w0:aA)(g base n c:Nat)(j:n<=100000):∀N,Xs w0 g base n c N:=by
 intro N;induction N with
 |zero=>intro P X L R a m b w h;omega
 |succ N ih=>
  intro P X L R a m b w D d i f hx H q s h;have A:Xs w0 g base n c (X.length+L.length):=λt u v R' z m' b' w' B=>ih t u v R' z m' b' w' O;by_cases c1:X.length=1
  ·obtain⟨x,rfl⟩:∃x,X=[x]:=bv.1 c1;refine(Y0 w0 g base n c a m b P L R x w (by simpa using h) j d (by simpa using i.symm) f s).mono ?_;rintro e w' ⟨rfl,r⟩;obtain⟨M,k,l,p⟩:=r.o;exact⟨rfl,Aa ⟨M,by simpa[ad]using k,l,by simpa using p⟩⟩
  ·by_cases c2:L.length=1
   ·obtain⟨y,rfl⟩:∃y,L=[y]:=bv.1 c2;refine(WA w0 g base n c a m b P X R y w (by simpa using h) j d i (by simpa using f.symm) O q).mono ?_;rintro e w' ⟨rfl,r⟩;obtain⟨M,k,l,p⟩:=r.o;exact⟨rfl,Aa ⟨M,by simpa[ad]using k,l,p.trans (bh y X).symm⟩⟩
   ·exact YZ w0 g base n c a m b P X L R w h j d i f ⟨O,O⟩ q s A
theorem Q1{d f:List Mg}{x:Mg}(h:Df (d++f))(k:∀z∈f,x.1<=z.1)(j:∀z,d.getLast?=F z->z.1<=x.1):Df (d++x::f):=by
 obtain⟨i,m,n⟩:=ak.1 h;refine ak.2 ⟨i,bF.2 ⟨k,m⟩,λa c b g=>?_⟩;rcases bD.1 g with rfl|g
 ·cases e:d.getLast? with
  |none=>rw[List.getLast?_eq_none_iff]at e;subst e;cases c
  |some z=>
   obtain⟨o,rfl⟩:=bk.1 e;have l:=j z e;rcases am.1 c with c|c
   ·have:=(ak.1 i).2.2 a c z (aH.2 rfl);omega
   ·obtain rfl:=aH.1 c;exact l
 ·exact n a c b g
theorem Vi(w0:aA)(g base n l a b:Nat)(P S R:List Mg)(w:aA)(h:RW w0 g base n l (P++(S++R)) w)(hn:n<=100000)(ha:P.length=a)(hb:a+S.length=b):aN an 237 #[aV (F ⟨g,0,J⟩) n l,aa I (a:Int),aa I (b:Int),ba (aZ 132) #[] #[]] w λe w'=>e=av (aW #[])/\Hid (∃Z,RW w0 g base n l (P++(Z++R)) w'/\Df Z/\Z.Perm S):=by
 have a3:=h.2;simp only[E]at a3;have b7:b<=n:=O;obtain⟨W,a0⟩:∃W:Nat,Hid (a+1=W):=⟨_,rfl⟩;have wa:I.wrap ((a:Int)+1)=(W:Int):=by have:=a0.o;rw[ah];omega
 have H0:Hid (∃Z,RW w0 g base n l (P++(Z++(S.drop (W-a)++R))) w/\Df Z/\Z.Perm (S.take (W-a))):=Aa (by
  rw[show W-a=1 by have:=a0.o;omega];refine⟨S.take 1,by rw[<-ad (S.take 1),aj];exact h,?_,bV _⟩;cases S with
  |nil=>exact List.Pairwise.nil
  |cons x r=>exact List.pairwise_singleton _ _);have HP:=Aa ha;have HS:=Aa hb;have b4:a<=b:=O;have b0:a<W:=by have:=a0.o;omega
 have a8:W<=n+1:=by have:=a0.o;omega
 clear h ha hb a3;go_enter func237,ntmps237;go_wp2;go_loopg[8] (b+1-a) (λgk v wr=>∃i:Nat,v=aa I i/\a<i/\i<=n+1/\(i<=b\/i=W)/\b+1-i<=gk/\Hid (∃Z,RW w0 g base n l (P++(Z++(S.drop (i-a)++R))) wr/\Df Z/\Z.Perm (S.take (i-a))));case atStart=>exact⟨W,rfl,b0,a8,aC rfl,O,H0⟩
 case round=>
  clear H0;obtain⟨i,rfl,b5,c1,c0,b9,HZ⟩:=hrel;by_cases c5:i<b
  ·obtain⟨x,hx⟩:∃x,S[i-a]?=F x:=⟨_,Y (by have:=HS.o;omega)⟩;have eD:S.drop (i-a)=x::S.drop (i-a+1):=by obtain⟨h1,rfl⟩:=G.1 hx;exact aS h1
   have eT:S.take (i-a+1)=S.take (i-a)++[x]:=by rw[bp,hx];rfl
   have a6:Hid (∃d k,(RW w0 g base n l (P++(d++x::(k++(S.drop (i-a+1)++R)))) wr/\d.length=i-a)/\Df (d++k)/\(d++k).Perm (S.take (i-a))/\∀z∈k,x.1<=z.1):=Aa (by obtain⟨Z,r1,M,u⟩:=HZ.o;have hl:=u.length_eq;rw[ai]at hl;refine⟨Z,[],⟨by rw[eD]at r1;simpa using r1,by have:=HS.o;omega⟩,by simpa using M,by simpa using u,λz N=>by cases N⟩);have HT:=Aa eT;clear HZ hx eD eT;go_wp2;go_loopg[9] (i-a) (λa9 v wr=>∃j:Nat,v=aa I j/\a<=j/\j<=i/\j-a<=a9/\Hid (∃d k,(RW w0 g base n l (P++(d++x::(k++(S.drop (i-a+1)++R)))) wr/\d.length=j-a)/\Df (d++k)/\(d++k).Perm (S.take (i-a))/\∀z∈k,x.1<=z.1));case atStart=>exact⟨i,rfl,O,ae _,ae _,a6⟩
   case round=>
    clear a6;obtain⟨j,rfl,b6,c3,b8,HI⟩:=hrel;have L:Hid (∀w',(∃d k,(RW w0 g base n l (P++(d++x::(k++(S.drop (i-a+1)++R)))) w'/\Df (d++x::k))/\(d++k).Perm (S.take (i-a)))->∃Z,RW w0 g base n l (P++(Z++(S.drop (i+1-a)++R))) w'/\Df Z/\Z.Perm (S.take (i+1-a))):=Aa (λw' ⟨d,k,⟨r1,M⟩,u⟩=>by rw[show i+1-a=i-a+1 by omega,HT.o];exact⟨d++x::k,by simpa[ad]using r1,M,(bN.trans (u.cons x)).trans (bh x _).symm⟩);by_cases c2:a<j
    ·obtain⟨c,A⟩:∃c:Nat,Hid (c+1=j):=⟨j-1,Aa O⟩;have wj:I.wrap ((j:Int)-1)=(c:Int):=by have:=A.o;rw[ah];omega
     have c6:c<j:=by have:=A.o;omega
     have c4:j<n:=O;have b3:c<n:=O;have b1:(a:Int)<(j:Int):=O;obtain⟨d,y,k,r0,l1,M,u,r4⟩:∃d y k,RW w0 g base n l (P++((d++[y])++x::(k++(S.drop (i-a+1)++R)))) wr/\d.length=c-a/\Df ((d++[y])++k)/\((d++[y])++k).Perm (S.take (i-a))/\∀z∈k,x.1<=z.1:=by
      obtain⟨d,k,⟨r0,l1⟩,M,u,r4⟩:=HI.o;have hj:=A.o;cases e:d.getLast? with
      |none=>rw[List.getLast?_eq_none_iff]at e;subst e;simp at l1;omega
      |some z=>obtain⟨ys,rfl⟩:=bk.1 e;rw[E,aJ]at l1;exact⟨ys,z,k,r0,O,M,u,r4⟩
     have e1:P++((d++[y])++x::(k++(S.drop (i-a+1)++R)))=(P++d)++y::([]++x::(k++(S.drop (i-a+1)++R))):=oS;have a2:(P++d).length=c:=by have:=HP.o;have:=A.o;rw[E];omega
     obtain⟨s,t,a5⟩:=Ji (P++d) [] (k++(S.drop (i-a+1)++R)) y x (i:=c) (j:=j) a2 (by have:=A.o;rw[a2];simp;omega);have D:=r0;rw[e1]at D;have m:Hid (∀V,aD wr.1.size wr V->((V.cell? ⟨g,j*5,J⟩=F (aa I x.1)/\V.cell? ⟨g,j*5+1,J⟩=F (aa I x.2)/\V.cell? ⟨g,j*5+2,J⟩=F (ac x.3)/\V.cell? ⟨g,j*5+3,J⟩=F (ac x.4)/\V.cell? ⟨g,j*5+4,J⟩=F (aa I x.5))/\(V.cell? ⟨g,c*5,J⟩=F (aa I y.1)/\V.cell? ⟨g,c*5+1,J⟩=F (aa I y.2)/\V.cell? ⟨g,c*5+2,J⟩=F (ac y.3)/\V.cell? ⟨g,c*5+3,J⟩=F (ac y.4)/\V.cell? ⟨g,c*5+4,J⟩=F (aa I y.5)))/\aD wr.1.size wr V):=Aa (λV X=>⟨⟨(D.below X).at_ t,(D.below X).at_ s⟩,X⟩);obtain⟨z,Hz⟩:∃z,Hid (Fg x.1 y.1=z):=⟨_,rfl⟩;have H:Hid (∀V:aA,aN an 132 #[ca #[aa I x.1,aa I x.2,ac x.3,ac x.4,aa I x.5],ca #[aa I y.1,aa I y.2,ac y.3,ac y.4,aa I y.5]] V λe w'=>e=av (aa I z)/\aD V.1.size V w'):=Aa (λV=>by rw[<-Hz.o];exact Q5 x y V);have U:=Jc x.1 y.1;rw[Hz.o]at U;obtain⟨⟨⟨d0,d1,d2,d3,d4⟩,e0,e1,e2,e3,e4⟩,-⟩:=m.o wr (al _ _);by_cases hc:x.1<y.1
     ·have N:aF (z<0)=aP:=by rw[U];simpa using hc
      have a7:Hid (∀f,aD wr.1.size wr f->RW w0 g base n l ((P++d)++y::([]++x::(k++(S.drop (i-a+1)++R)))) f/\Hid (∃d k,(RW w0 g base n l (P++(d++x::(k++(S.drop (i-a+1)++R)))) (Do (Do f g (j*5) y) g (c*5) x).drew/\d.length=c-a)/\Df (d++k)/\(d++k).Perm (S.take (i-a))/\∀z∈k,x.1<=z.1)):=Aa (λf X=>by
       refine⟨D.below X,Aa ⟨d,y::k,⟨?_,l1⟩,by simpa using M,by simpa using u,λz N=>?_⟩⟩
       ·have q:=((D.below X).swap t s).drew;rw[LW _ O,a5]at q;simpa[ad]using q
       ·rcases bD.1 N with rfl|N
        ·omega
        ·exact r4 z N);have Q:=Aa (And.intro s t);clear D r0 M u r4 s t a5 e1 U hc HI a2;go_wp2;go_region_held3(λV=>((V.cell? ⟨g,j*5,J⟩=F (aa I x.1)/\V.cell? ⟨g,j*5+1,J⟩=F (aa I x.2)/\V.cell? ⟨g,j*5+2,J⟩=F (ac x.3)/\V.cell? ⟨g,j*5+3,J⟩=F (ac x.4)/\V.cell? ⟨g,j*5+4,J⟩=F (aa I x.5))/\(V.cell? ⟨g,c*5,J⟩=F (aa I y.1)/\V.cell? ⟨g,c*5+1,J⟩=F (aa I y.2)/\V.cell? ⟨g,c*5+2,J⟩=F (ac y.3)/\V.cell? ⟨g,c*5+3,J⟩=F (ac y.4)/\V.cell? ⟨g,c*5+4,J⟩=F (aa I y.5)))/\aD wr.1.size wr V)
       ((refine m.o _ ?_;repeat(first|assumption|exact al _ _|refine ax ?_)))
       ((go_at_call 132;refine(H.o _).mono ?_;rintro e f ⟨rfl,h5⟩;have a4:=Ab (B:=wr.1.size) (w:=wr) (by repeat(first|assumption|exact al _ _|refine ax ?_)) (by first|exact ae _|assumption) h5));all_goals
       clear H m d0 d1 d2 d3 d4 e0 e1 e2 e3 e4 h5;go_wp2_with fail;obtain⟨D,HF⟩:=a7.o f a4;have s:=Q.o.1;have t:=Q.o.2;obtain⟨d0,d1,d2,d3,d4⟩:=D.drew.at_ t;obtain⟨e0,e1,e2,e3,e4⟩:=D.drew.at_ s;obtain⟨p0,p1,p2,p3,p4⟩:=D.at_ t;obtain⟨q0,q1,q2,q3,q4⟩:=D.at_ s;have fr:=D.drew.free;have p:=D.free;have f0:f.drew.frozen? ⟨g,j*5,J⟩=af:=fr _;have g0:f.drew.frozen? ⟨g,c*5,J⟩=af:=fr _;have s0:f.frozen? ⟨g,j*5,J⟩=af:=p _;have t0:f.frozen? ⟨g,c*5,J⟩=af:=p _;have f1:f.drew.frozen? ⟨g,j*5+1,J⟩=af:=fr _;have g1:f.drew.frozen? ⟨g,c*5+1,J⟩=af:=fr _;have s1:f.frozen? ⟨g,j*5+1,J⟩=af:=p _;have t1:f.frozen? ⟨g,c*5+1,J⟩=af:=p _;have f2:f.drew.frozen? ⟨g,j*5+2,J⟩=af:=fr _;have g2:f.drew.frozen? ⟨g,c*5+2,J⟩=af:=fr _;have s2:f.frozen? ⟨g,j*5+2,J⟩=af:=p _;have t2:f.frozen? ⟨g,c*5+2,J⟩=af:=p _;have f3:f.drew.frozen? ⟨g,j*5+3,J⟩=af:=fr _;have g3:f.drew.frozen? ⟨g,c*5+3,J⟩=af:=fr _;have s3:f.frozen? ⟨g,j*5+3,J⟩=af:=p _;have t3:f.frozen? ⟨g,c*5+3,J⟩=af:=p _;have f4:f.drew.frozen? ⟨g,j*5+4,J⟩=af:=fr _;have g4:f.drew.frozen? ⟨g,c*5+4,J⟩=af:=fr _;have s4:f.frozen? ⟨g,j*5+4,J⟩=af:=p _;have t4:f.frozen? ⟨g,c*5+4,J⟩=af:=p _;have h3:¬j*5=c*5:=O;have c7:¬c*5=j*5:=O;have h4:¬j*5=c*5+1:=O;have c8:¬c*5+1=j*5:=O;have h6:¬j*5=c*5+2:=O;have c9:¬c*5+2=j*5:=O;have h7:¬j*5=c*5+3:=O;have d5:¬c*5+3=j*5:=O;have h8:¬j*5=c*5+4:=O;have d6:¬c*5+4=j*5:=O;have h9:¬j*5+1=c*5:=O;have d7:¬c*5=j*5+1:=O;have i0:¬j*5+1=c*5+1:=O;have d8:¬c*5+1=j*5+1:=O;have i1:¬j*5+1=c*5+2:=O;have d9:¬c*5+2=j*5+1:=O;have i2:¬j*5+1=c*5+3:=O;have e5:¬c*5+3=j*5+1:=O;have i3:¬j*5+1=c*5+4:=O;have e6:¬c*5+4=j*5+1:=O;have i4:¬j*5+2=c*5:=O;have e7:¬c*5=j*5+2:=O;have i5:¬j*5+2=c*5+1:=O;have e8:¬c*5+1=j*5+2:=O;have i6:¬j*5+2=c*5+2:=O;have e9:¬c*5+2=j*5+2:=O;have i7:¬j*5+2=c*5+3:=O;have f5:¬c*5+3=j*5+2:=O;have n24:¬j*5+2=c*5+4:=O;have f6:¬c*5+4=j*5+2:=O;have i8:¬j*5+3=c*5:=O;have f7:¬c*5=j*5+3:=O;have i9:¬j*5+3=c*5+1:=O;have f8:¬c*5+1=j*5+3:=O;have j0:¬j*5+3=c*5+2:=O;have f9:¬c*5+2=j*5+3:=O;have j2:¬j*5+3=c*5+3:=O;have g5:¬c*5+3=j*5+3:=O;have j3:¬j*5+3=c*5+4:=O;have g6:¬c*5+4=j*5+3:=O;have j4:¬j*5+4=c*5:=O;have g7:¬c*5=j*5+4:=O;have j5:¬j*5+4=c*5+1:=O;have g8:¬c*5+1=j*5+4:=O;have j6:¬j*5+4=c*5+2:=O;have g9:¬c*5+2=j*5+4:=O;have j7:¬j*5+4=c*5+3:=O;have h0:¬c*5+3=j*5+4:=O;have j8:¬j*5+4=c*5+4:=O;have h2:¬c*5+4=j*5+4:=O;clear fr p;clear D s t a7 Q;go_region;all_goals
        go_wp2;go_roundg (gk-1);case rel=>refine⟨c,by first|rfl|go_num,by have:=A.o;omega,O,by have:=A.o;omega,?_⟩;unfold Do at HF;exact HF
        case measure=>omega
     ·have N:aF (z<0)=af:=by rw[U];simpa using hc
      have HE:Hid (∀f,aD wr.1.size wr f->∃Z,RW w0 g base n l (P++(Z++(S.drop (i+1-a)++R))) f/\Df Z/\Z.Perm (S.take (i+1-a))):=Aa (λf X=>L.o f ⟨d++[y],k,⟨r0.below X,Q1 M r4 (λz N=>by simp at N;subst N;omega)⟩,u⟩);clear D r0 M u r4 s t a5 e1 U hc HI a2 L;go_wp2;go_region_held3(λV=>((V.cell? ⟨g,j*5,J⟩=F (aa I x.1)/\V.cell? ⟨g,j*5+1,J⟩=F (aa I x.2)/\V.cell? ⟨g,j*5+2,J⟩=F (ac x.3)/\V.cell? ⟨g,j*5+3,J⟩=F (ac x.4)/\V.cell? ⟨g,j*5+4,J⟩=F (aa I x.5))/\(V.cell? ⟨g,c*5,J⟩=F (aa I y.1)/\V.cell? ⟨g,c*5+1,J⟩=F (aa I y.2)/\V.cell? ⟨g,c*5+2,J⟩=F (ac y.3)/\V.cell? ⟨g,c*5+3,J⟩=F (ac y.4)/\V.cell? ⟨g,c*5+4,J⟩=F (aa I y.5)))/\aD wr.1.size wr V)
       ((refine m.o _ ?_;repeat(first|assumption|exact al _ _|refine ax ?_)))
       ((go_at_call 132;refine(H.o _).mono ?_;rintro e f ⟨rfl,h5⟩;have a4:=Ab (B:=wr.1.size) (w:=wr) (by repeat(first|assumption|exact al _ _|refine ax ?_)) (by first|exact ae _|assumption) h5));all_goals
       clear H m d0 d1 d2 d3 d4 e0 e1 e2 e3 e4 h5;go_wp2;go_roundg (b-i);case rel=>exact⟨i+1,by go_num,O,O,aq O,O,Aa (HE.o f a4)⟩
       case measure=>omega
    ·have b1:¬(a:Int)<(j:Int):=O;have HE:Hid (∀f,aD wr.1.size wr f->∃Z,RW w0 g base n l (P++(Z++(S.drop (i+1-a)++R))) f/\Df Z/\Z.Perm (S.take (i+1-a))):=Aa (λf X=>by obtain⟨d,k,⟨r0,l1⟩,M,u,r4⟩:=HI.o;have b2:d=[]:=au.1 O;exact L.o f ⟨d,k,⟨r0.below X,Q1 M r4 (λz N=>by rw[b2]at N;cases N)⟩,u⟩);have mixed:an.follows .mixedOrders=aP:=K;clear HI L;go_wp2_with fail
     go_big_region_o
     all_goals
      go_wp2;go_roundg (b-i);case rel=>exact⟨i+1,by go_num,O,O,aq O,O,Aa (HE.o wr.drew (al _ _).drew)⟩
      case measure=>omega
  ·have HF:Hid (∃Z,RW w0 g base n l (P++(Z++R)) wr/\Df Z/\Z.Perm S):=Aa (by obtain⟨Z,r1,M,u⟩:=HZ.o;have hs:=HS.o;rw[bu O,bU]at r1;rw[aI O]at u;exact⟨Z,r1,M,u⟩);clear HZ;go_wp2;go_end0;exact⟨rfl,HF⟩
def SBk(bs:Nat)(T:List Mg):Prop:=∀q,Df ((T.drop (q*bs)).take bs)
theorem SBk.nil(bs:Nat):SBk bs []:=λq=>oS
theorem SBk.app{bs q:Nat}{D S:List Mg}(hD:SBk bs D)(b:D.length=q*bs)(c:SBk bs S):SBk bs (D++S):=λr=>by
 by_cases h:r<q
 ·have a:r*bs+bs<=D.length:=by rw[b];have:=Nat.mul_le_mul_right bs (show r+1<=q from h);rwa[bw,bx]at this
  rw[be O,List.take_append_of_le_length (by rw[ay];omega)];exact hD r
 ·have a:D.length+(r-q)*bs=r*bs:=by rw[b,<-bw];congr 1;omega
  rw[<-a,<-bA,be (ae _),List.drop_length,bU];exact c (r-q)
theorem SBk.one{bs:Nat}{S:List Mg}(h:Df S):SBk bs S:=λ_=>h.sublist ((bK _ _).trans (bJ _ _))
theorem SBk.drop{bs:Nat}{S:List Mg}(h:SBk bs S)(k:Nat):SBk bs (S.drop (k*bs)):=λq=>by rw[bA,<-bw];exact h (k+q)
theorem SBk.head{bs:Nat}{S:List Mg}(h:SBk bs S):Df (S.take bs):=by have:=h 0;simpa using this
theorem SBk.all{bs:Nat}{S:List Mg}(h:SBk bs S)(a:S.length<=bs):Df S:=by have:=h.head;rwa[aI a]at this
theorem YU(w0:aA)(g base n c:Nat)(T:List Mg)(w:aA)(h:RW w0 g base n c T w)(hn:n<=50000):aN an 193 #[aV (F ⟨g,0,J⟩) n c,aa I (n:Int),ba (aZ 132) #[] #[]] w λe w'=>e=av (aW #[])/\Hid (∃Z,RW w0 g base n c Z w'/\Df Z/\Z.Perm T):=by
 have H0:Hid (∃D S q,(RW w0 g base n c (D++S) w/\D.length=0/\0=q*20)/\SBk 20 D/\(D++S).Perm T):=Aa ⟨[],T,0,⟨h,rfl,rfl⟩,SBk.nil _,bV _⟩;have HS:=Aa (λN=>YW w0 g base n c O N);have L:n<=100000:=O;clear h;go_enter func193,ntmps193;go_wp2;go_loopg[7,8] (n+1) (λgk va vb wr=>∃a b:Nat,va=aa I a/\vb=aa I b/\a<=n/\b<=n+20/\n+21-b<=gk+20/\Hid (b=a+20)/\Hid (∃D S q,(RW w0 g base n c (D++S) wr/\D.length=a/\a=q*20)/\SBk 20 D/\(D++S).Perm T));case atStart=>exact⟨0,20,rfl,rfl,bP _,O,O,rfl,H0⟩
 case round=>
  clear H0;obtain⟨a,b,rfl,rfl,a9,b0,b4,Hb,r⟩:=hrel;by_cases X:b<=n
  ·have x:Hid (aN an 237 #[aV (F ⟨g,0,J⟩) n c,aa I (a:Int),aa I (b:Int),ba (aZ 132) #[] #[]] wr λe w'=>e=av (aW #[])/\Hid (∃D S q,(RW w0 g base n c (D++S) w'/\D.length=b/\b=q*20)/\SBk 20 D/\(D++S).Perm T)):=Aa (by obtain⟨D,S,q,⟨f,j,l⟩,v,p⟩:=r.o;have hb:=Hb.o;have u:=f.2;rw[E]at u;refine(Vi w0 g base n c a b D (S.take 20) (S.drop 20) wr (by rw[aj];exact f) L j (by rw[ai];omega)).mono ?_;rintro e w' ⟨rfl,t⟩;obtain⟨Z,A,t2,t3⟩:=t.o;have hz:=t3.length_eq;rw[ai]at hz;refine⟨rfl,Aa ⟨D++Z,S.drop 20,q+1,⟨by rw[ad];exact A,by rw[E];omega,O⟩,v.app (j.trans l) (SBk.one t2),?_⟩⟩;refine bQ ?_ p;rw[ad];refine aE D ((t3.append_right _).trans ?_);rw[aj]);obtain⟨R,i⟩:∃R:Nat,Hid (b+20=R):=⟨_,rfl⟩;have wb:I.wrap ((b:Int)+20)=(R:Int):=by have:=i.o;rw[ah];omega
   clear r;go_wp2_with(go_at_call 237;go_must(refine x.o.mono ?_);rintro e w1 ⟨rfl,V⟩;refine aL ?_);refine Aa ?_;go_wp2;go_roundg (gk-1);case rel=>exact⟨b,R,rfl,rfl,X,by have:=i.o;omega,by have:=i.o;omega,Aa i.o.symm,V⟩
   case measure=>omega
  ·have x:Hid (aN an 237 #[aV (F ⟨g,0,J⟩) n c,aa I (a:Int),aa I (n:Int),ba (aZ 132) #[] #[]] wr λe w'=>e=av (aW #[])/\Hid (∃Z,RW w0 g base n c Z w'/\SBk 20 Z/\Z.Perm T)):=Aa (by obtain⟨D,S,q,⟨f,j,l⟩,v,p⟩:=r.o;have u:=f.2;rw[E]at u;refine(Vi w0 g base n c a n D S [] wr (by simpa using f) L j O).mono ?_;rintro e w' ⟨rfl,t⟩;obtain⟨Z,A,t2,t3⟩:=t.o;exact⟨rfl,Aa ⟨D++Z,by simpa using A,v.app (j.trans l) (SBk.one t2),(aE D t3).trans p⟩⟩);have b1:¬(b:Int)<=(n:Int):=O;clear r Hb;go_wp2_with(go_at_call 237;go_must(refine x.o.mono ?_);rintro e w1 ⟨rfl,V⟩;refine aL ?_);refine Aa ?_;go_wp2;go_loopg[6,7,8,9] (n+1) (λgk vs v7 v8 v9 wr=>∃s:Nat,vs=aa I s/\20<=s/\s<=2*n+20/\n+1-s<=gk/\Hid (∃Z,RW w0 g base n c Z wr/\SBk s Z/\Z.Perm T));case atStart=>exact⟨20,rfl,ae _,O,O,V⟩
   case round=>
    clear V x;obtain⟨s,rfl,b7,b8,b5,P⟩:=hrel;by_cases a6:s<n
    ·obtain⟨d,k⟩:∃d:Nat,Hid (2*s=d):=⟨_,rfl⟩;have b9:I.wrap (2*(s:Int))=(d:Int):=by have:=k.o;rw[ah];omega
     have c0:I.wrap ((s:Int)*2)=(d:Int):=by have:=k.o;rw[ah];omega
     have a7:s<d:=by have:=k.o;omega
     have a8:d<=2*n:=by have:=k.o;omega
     have B:Hid (∃D S q,(RW w0 g base n c (D++S) wr/\D.length=0/\0=q*d)/\SBk d D/\SBk s S/\(D++S).Perm T):=Aa (by obtain⟨Z,f,j,l⟩:=P.o;exact⟨[],Z,0,⟨f,rfl,oS⟩,SBk.nil _,j,l⟩);clear P;go_wp2;go_loopg[7,8] (n+1) (λgk va vb wr=>∃a b:Nat,va=aa I a/\vb=aa I b/\a<=n/\b<=n+d/\n+1-a<=gk/\Hid (b=a+d)/\Hid (∃D S q,(RW w0 g base n c (D++S) wr/\D.length=a/\a=q*d)/\SBk d D/\SBk s S/\(D++S).Perm T));case atStart=>exact⟨0,d,rfl,rfl,bP _,O,O,Aa O,B⟩
     case round=>
      clear B;obtain⟨a,b,rfl,rfl,a0,a1,a5,i,r⟩:=hrel;obtain⟨m,Q⟩:∃m:Nat,Hid (a+s=m):=⟨_,rfl⟩;have wm:I.wrap ((a:Int)+(s:Int))=(m:Int):=by have:=Q.o;rw[ah];omega
      by_cases H:b<=n
      ·have x:Hid (aN an 238 #[aV (F ⟨g,0,J⟩) n c,aa I (a:Int),aa I (m:Int),aa I (b:Int),ba (aZ 132) #[] #[]] wr λe w'=>e=av (aW #[])/\Hid (∃D S q,(RW w0 g base n c (D++S) w'/\D.length=b/\b=q*d)/\SBk d D/\SBk s S/\(D++S).Perm T)):=Aa (by
        obtain⟨D,S,q,⟨f,j,l⟩,v,p,M⟩:=r.o;have hb:=i.o;have hm:=Q.o;have z:=k.o;have u:=f.2;rw[E]at u;have l1:(S.take s).length=s:=by rw[ai];omega
        have l2:((S.drop s).take s).length=s:=by rw[ai,ay];omega
        have eS:S.take s++((S.drop s).take s++S.drop d)=S:=by rw[<-z,Nat.two_mul,<-bA,aj,aj]
        refine(HS.o (2*s+1) D (S.take s) ((S.drop s).take s) (S.drop d) a m b wr O j O O O O p.head ((p.drop 1).head.sublist (by rw[bx];exact List.Sublist.refl _)) (by rw[eS];exact f)).mono ?_;rintro e w' ⟨rfl,t⟩;obtain⟨Z,A,t2,t3⟩:=t.o;have hz:=t3.length_eq;rw[E]at hz;refine⟨rfl,Aa ⟨D++Z,S.drop d,q+1,⟨by rw[ad];exact A,by rw[E];omega,by rw[bw];omega⟩,v.app (j.trans l) (SBk.one t2),?_,?_⟩⟩
        ·have:=p.drop 2;rwa[z]at this
        ·refine bQ ?_ M;rw[ad];refine aE D ((t3.append_right _).trans ?_);rw[ad,eS]);obtain⟨U,y⟩:∃U:Nat,Hid (b+d=U):=⟨_,rfl⟩;have wb:I.wrap ((b:Int)+(d:Int))=(U:Int):=by have:=y.o;rw[ah];omega
       clear r;go_wp2_with(go_at_call 238;go_must(refine x.o.mono ?_);rintro e w3 ⟨rfl,W⟩;refine aL ?_);refine Aa ?_;go_wp2;go_roundg (gk-1);case rel=>exact⟨b,U,rfl,rfl,H,by have:=y.o;omega,by have:=i.o;omega,Aa y.o.symm,W⟩
       case measure=>omega
      ·have a2:¬(b:Int)<=(n:Int):=O;by_cases b6:m<n
       ·have x:Hid (aN an 238 #[aV (F ⟨g,0,J⟩) n c,aa I (a:Int),aa I (m:Int),aa I (n:Int),ba (aZ 132) #[] #[]] wr λe w'=>e=av (aW #[])/\Hid (∃Z,RW w0 g base n c Z w'/\SBk d Z/\Z.Perm T)):=Aa (by
         obtain⟨D,S,q,⟨f,j,l⟩,v,p,M⟩:=r.o;have hb:=i.o;have hm:=Q.o;have z:=k.o;have u:=f.2;rw[E]at u;have l1:(S.take s).length=s:=by rw[ai];omega
         have l2:(S.drop s).length=S.length-s:=ay ..;have sd:Df (S.drop s):=by have:=(p.drop 1).all (by rw[bx,l2];omega);rwa[bx]at this
         refine(HS.o (S.length+1) D (S.take s) (S.drop s) [] a m n wr O j O O O O p.head sd (by rw[bt,aj];exact f)).mono ?_;rintro e w' ⟨rfl,t⟩;obtain⟨Z,A,t2,t3⟩:=t.o;rw[aj]at t3;exact⟨rfl,Aa ⟨D++Z,by simpa using A,v.app (j.trans l) (SBk.one t2),(aE D t3).trans M⟩⟩);clear r;go_wp2_with(go_at_call 238;go_must(refine x.o.mono ?_);rintro e w3 ⟨rfl,W⟩;refine aL ?_);refine Aa ?_;go_wp2;go_roundg (n-s);case rel=>exact⟨d,rfl,O,O,O,W⟩
        case measure=>omega
       ·have HE:Hid (∃Z,RW w0 g base n c Z wr/\SBk d Z/\Z.Perm T):=Aa (by obtain⟨D,S,q,⟨f,j,l⟩,v,p,M⟩:=r.o;have hm:=Q.o;have u:=f.2;rw[E]at u;exact⟨D++S,f,v.app (j.trans l) (SBk.one (p.all O)),M⟩);have a3:¬(m:Int)<(n:Int):=O;clear r;go_wp2;go_roundg (n-s);case rel=>exact⟨d,rfl,O,O,O,HE⟩
        case measure=>omega
    ·have HF:Hid (∃Z,RW w0 g base n c Z wr/\Df Z/\Z.Perm T):=Aa (by obtain⟨Z,f,j,l⟩:=P.o;exact⟨Z,f,j.all (by have:=f.2;omega),l⟩);have a4:¬(s:Int)<(n:Int):=O;clear P;go_wp2;go_end0;exact⟨rfl,HF⟩
theorem Q0B(w0:aA)(g base n a:Nat)(T:List Mg)(w:aA)(h:RW w0 g base n a T w)(c:n<=50000):aN an 131 #[aV (F ⟨g,0,J⟩) n a,ba (aZ 132) #[] #[]] w λe w'=>e=av (aW #[])/\Hid (∃Z,RW w0 g base n a Z w'/\Df Z/\Z.Perm T):=by have HS:=Aa (YU w0 g base n a T w h c);clear h;go_enter func131,ntmps131;go_wp2_with(go_at_call 193;go_must(refine HS.o.mono ?_);rintro e w1 ⟨rfl,b⟩;refine aL ?_);refine Aa ?_;go_wp2;go_end0;exact⟨rfl,b⟩
def BX(s:WSt)(k j:Nat):Int:=match s.1[j]? with
 |some h=>if BD h.1.3 (k:Int)=true then h.1.8 k else 0
 |none=>0
def Dz(s:WSt)(k:Nat)(rs:DZ)(n:Nat):List Mg:=(List.range n).flatMap λj=>Lw rs j (BX s k j)
theorem Ky(s:WSt)(k:Nat)(rs:DZ)(n:Nat):Dz s k rs (n+1)=Dz s k rs n++Lw rs n (BX s k n):=by unfold Dz;rw[List.range_succ,List.flatMap_append];simp
def Uc(s:WSt)(k:Nat)(h:HW)(l:List Mg):Prop:=∃ks,D2 (λt=>h.1.Q (aT t)) ks/\l=AW (λt=>h.1.Q (aT t)) ks++Dz s k h.1 4
def LedN(s:WSt)(n:Nat)(l:List Mg):Prop:=∃ls:List (List Mg),l=ls.flatten/\ls.length=n/\∀(k:Nat) (h:HW) (x:List Mg),s.1[k]?=F h->ls[k]?=F x->Uc s k h x
theorem LedN.nil(s:WSt):LedN s 0 []:=⟨[],rfl,rfl,λk h x _ hx=>by simp at hx⟩
theorem LedN.snoc{s:WSt}{n:Nat}{l x:List Mg}{h:HW}(j:LedN s n l)(hk:s.1[n]?=F h)(hx:Uc s n h x):LedN s (n+1) (l++x):=by
 obtain⟨f,rfl,d,i⟩:=j;refine⟨f++[x],oS,by simp[d],λk g y a b=>?_⟩;by_cases e:k<f.length
 ·rw[az e]at b;exact i k g y a b
 ·have c:k=n:=by have:=(G.1 b).1;rw[E,aJ]at this;omega
  subst c;rw[aw O,d,cb]at b;obtain rfl:=ab b;rw[hk]at a;obtain rfl:=ab a;exact hx
theorem SD(Q:D3->List Pl)(b:∀l,Fit (Q l))(ks:List ByteArray):(AW (λt=>Q (aT t)) ks).length<=Dr Q ks:=by
 induction ks with
 |nil=>exact Nat.le_refl _
 |cons s r ih=>
  have e:AW (λt=>Q (aT t)) (s::r)=Ao Pl.kept (AA (Q (aT s)))++AW (λt=>Q (aT t)) r:=by simp[AW]
  rw[e,E,CI];have a:=B7 Pl.kept (AA (Q (aT s)));rw[AX (b _)]at a;omega
theorem Rf{h:HW}{k i p:Nat}(a:HOk h k i p)(j:Nat)(ar:Int):(Lw h.1 j ar).length<=2000:=by
 unfold Lw;split
 ·unfold Xo;have c:=List.length_filter_le (λm:Mg=>!decide (m.1∈(if h.1.7 j<=ar then h.1.6 j else []))) (Ao Pl.kept (AA (h.1.Q (aU j))));have b:=B7 Pl.kept (AA (h.1.Q (aU j)));rw[AX (a.1.q.1 _)]at b;have d:=a.len (aU j);omega
 ·exact bP _
theorem TG{h:HW}{k k' i p:Nat}(s:WSt)(a:HOk h k i p)(n:Nat):(Dz s k' h.1 n).length<=2000*n:=by
 induction n with
 |zero=>exact Nat.le_refl _
 |succ n ih=>rw[Ky,E];have:=Rf a n (BX s k' n);omega
theorem JU{h:HW}{k i p:Nat}(a:HOk h k i p){ks:List ByteArray}(hk:D2 (λt=>h.1.Q (aT t)) ks):(AW (λt=>h.1.Q (aT t)) ks).length<=2000:=by have b:=SD h.1.Q a.1.q.1 ks;have c:=a.1.tl ks hk.1;have d:=a.4;omega
theorem Xu{s:WSt}(a:Fe s)(k j:Nat):0<=BX s k j:=by
 unfold BX;cases e:s.1[j]? with
 |none=>exact Int.le_refl _
 |some h=>
  obtain⟨i,p,b⟩:=a j h e;simp only;split
  ·exact b.1.25 k
  ·exact aX _
theorem Mo{w:aA}{d:Array Oper}{rest:List Oper}{o:Oper}{a:Act}{Q:Exit->Act->aA->Prop}(c:o.6=J)(f x:Operand)(p:o.2=.call {callee:=.builtin .append,args:=#[f,x],argTypes:=#[99,99]})(base B:Nat)(v v2:Value)(n m:Nat)(X H:List Mg)(hs:a.eval f=v)(hx:a.eval x=v2)(b:w.ownsRow base 95 5 v n (AL X))(g:w.ownsRow B 95 5 v2 m (AL H))(D:n+m<=100000)(y:base<=w.1.size)(l:∀v5 e,Hid (e.ownsRow base 95 5 v5 (n+m) (AL (X++H))/\w.grownBy e v.ownBlock)->wpList an d Q rest (a.put o.1 v5) e):wpList an d Q (o::rest) a w:=by
 obtain⟨r,hj,h,i,j⟩:=Aw F8;have z:H.length=m:=by have:=g.1;rw[Q9]at this;omega
 rcases own_rowM g with⟨e1,e2⟩|⟨g2,c2,e1,e2⟩
 ·subst e1 e2;have k:m=0:=by simpa using z.symm
  subst k;refine wpList_append_own_none c f x 99 p base 95 r 5 bI hj v n _ hs b hx (l v w (Aa ⟨?_,⟨rfl,rfl,rfl,ae _,λ_ _ _=>rfl⟩⟩));rw[bt];exact b
 ·subst e1;refine wpList_append_own w c f x 99 p base 95 r _ 5 56 bI hj h i j rfl oD v n _ hs b ⟨g2,0,J⟩ m c2 (AL H) hx g.1 e2 (λu A=>?_) (by unfold maxLen;omega) O y (λv5 e s t _=>l v5 e (Aa ⟨?_,t⟩))
  ·obtain⟨q,-,hq⟩:=br.1 A;exact Ek q u hq
  ·rw[Q8];exact s
theorem Gg(A:List Pl):Ao Pl.kept (AA A)=(AA (Ak A)).map Pl.m:=by unfold Ao Ak AA;rw[GS (λx:Pl=>(⟨x.m,-1,af⟩:Pl)) (λ_=>rfl),Dq,List.map_map];rfl
def C9(h:HW)(m:Mg):Prop:=∃u,fr m∈Ak (h.1.Q (aT u))
def Gh(h:HW)(j:Nat)(m:Mg):Prop:=fr m∈Ak (h.1.Q (aU j))
theorem Xx{A:List Pl}{x:Pl}(h:x∈Ak A):x=fr x.m:=by obtain⟨y,-,-,rfl⟩:=Bf.1 h;rfl
theorem Fj{A:List Pl}(h:Fit A):Fit (Ak A):=Jd (EP h _) _ (λ_=>rfl) (λx _ hx=>by cases hx)
theorem Ez{A:List Pl}(b:Fit A){m:Mg}:m∈Ao Pl.kept (AA A)↔fr m∈Ak A:=by
 rw[Gg,aM];have a:=BB (Fj b);constructor
 ·rintro⟨x,hx,rfl⟩;have:=a.mem_iff.1 hx;rw[<-Xx this];exact this
 ·intro h;exact⟨fr m,a.mem_iff.2 h,rfl⟩
theorem Cg(rs:DZ)(j:Nat):Ej rs j=((AA (Ak (rs.Q (aU j)))).map Pl.m).filter λm=>aF (m.1∈rs.6 j):=by unfold Ej;rw[Gg]
theorem MQ{rs:DZ}{j:Nat}(a:Fit (rs.Q (aU j))){m:Mg}:m∈Ej rs j↔fr m∈Ak (rs.Q (aU j))/\m.1∈rs.6 j:=by unfold Ej;rw[bg,Ez a,decide_eq_true_eq]
theorem MR{rs:DZ}{j:Nat}(a:Fit (rs.Q (aU j))){ar:Int}{m:Mg}:m∈Xo rs j ar↔fr m∈Ak (rs.Q (aU j))/\¬(rs.7 j<=ar/\m.1∈rs.6 j):=by
 unfold Xo;rw[bg,Ez a];by_cases h:rs.7 j<=ar
 ·simp[h]
 ·simp[h]
structure SameC(h a:HW):Prop where
 q:∀l,Ak (a.1.Q l)=Ak (h.1.Q l)
 md:a.1.7=h.1.7
 db:a.1.6=h.1.6
 ar:a.1.8=h.1.8
 best:a.1.5=h.1.5
theorem SameC.refl(h:HW):SameC h h:=⟨λ_=>rfl,rfl,rfl,rfl,rfl⟩
theorem SameC.trans{h c d:HW}(a:SameC h c)(b:SameC c d):SameC h d:=⟨λl=>(b.q l).trans (a.q l),b.2.trans a.2,b.3.trans a.3,b.4.trans a.4,b.5.trans a.5⟩
theorem SameC.k{h b:HW}(a:SameC h b)(m:Mg):C9 b m↔C9 h m:=by unfold C9;simp only[a.q]
theorem SameC.w{h b:HW}(a:SameC h b)(j:Nat)(m:Mg):Gh b j m↔Gh h j m:=by unfold Gh;rw[a.q]
theorem SameC.dbl{h b:HW}(a:SameC h b)(j:Nat):Ej b.1 j=Ej h.1 j:=by rw[Cg,Cg,a.q,a.3]
theorem Ed{h:HW}{c:Ch}{rs':DZ}{ns':List Nm}{n:Nat}(e:CN h≠0):SameC h (h.wr c rs' ns' n):=by
 by_cases e2:CN h=14
 ·rw[bq e2];exact⟨λ_=>rfl,rfl,rfl,rfl,rfl⟩
 ·rw[bE e e2];exact SameC.refl h
theorem Wi(h:HW)(u:Nat)(s:ByteArray)(pri:Int)(body:ByteArray):SameC h (h.put u s pri body):=by
 unfold bY;split
 ·refine⟨λl=>?_,rfl,rfl,rfl,rfl⟩;show Ak (AS h.1.Q _ _ l)=_;unfold AS;split
  ·rename_i e;rw[La,e]
  ·rfl
 ·exact⟨λ_=>rfl,rfl,rfl,rfl,rfl⟩
theorem Wh{h:HW}{k i p:Nat}(b:HOk h k i p)(u:Nat)(s:ByteArray):SameC h (h.get u s):=by
 unfold bX;split
 ·rename_i x e;unfold HW.got at e;split at e
  ·have f:x∈h.1.Q (aT s):=(BB (b.1.q.1 _)).mem_iff.1 (bl e);have d:x.free=aP:=bR e;have a:x.u<0:=by simpa[Pl.free]using d
   refine⟨λl=>?_,rfl,rfl,rfl,rfl⟩;show Ak (AS h.1.Q _ _ l)=_;unfold AS;split
   ·rename_i e2;rw[Jv,e2];intro y g c;obtain rfl:=Cf (b.1.q.1 _).2 g f c;simp[Pl.kept,a]
   ·rfl
  ·cases e
 ·exact SameC.refl h
theorem Th(h:HW)(u:Nat):SameC h (h.back u):=by
 unfold bZ;split
 ·exact⟨λl=>Bh u _,rfl,rfl,rfl,rfl⟩
 ·exact SameC.refl h
theorem Ti(h:HW)(n t:Int):SameC h (h.cutT n t):=⟨λ_=>rfl,rfl,rfl,rfl,rfl⟩
theorem Ou(h:HW)(n:Int):SameC h (h.cut n):=⟨λ_=>rfl,rfl,rfl,rfl,rfl⟩
theorem Tg(h:HW)(H:Nat):SameC h (h.anew H):=⟨λl=>Ju _,rfl,rfl,rfl,rfl⟩
theorem Tj(h:HW)(x:Nm):SameC h (h.name x):=by
 unfold HW.name;split
 ·exact SameC.refl h
 ·by_cases e:CN h=0
  ·rw[aR e];exact⟨λ_=>rfl,rfl,rfl,rfl,rfl⟩
  ·exact Ed e
theorem Eo(Q:D3->List Pl)(u:Nat)(ds:List Dd)(l:D3):Ak (Cd Q u ds l)=Ah (Ef l ds) (Ak (Q l))++Em l ds:=by unfold Cd;rw[DG,BE,Bh,EV,FA]
theorem EI{Q:D3->List Pl}{l:D3}{m:Mg}(h:fr m∈Ak (Q l)):∃x∈Q l,x.kept=aP/\x.m=m:=by
 obtain⟨x,a,b,c⟩:=Bf.1 h;refine⟨x,a,b,?_⟩;have:(fr m).m=x.m:=by rw[c]
 exact this.symm
def Cq(s:WSt)(k:Nat)(h:HW)(j:Nat)(m:Mg):Prop:=BD h.1.3 (j:Int)=aP/\Gh h j m/\¬(h.1.7 j<=BX s k j/\m.1∈h.1.6 j)
def Q1K(s:WSt)(m:Mg):Prop:=(∃(k:Nat) (h:HW),s.1[k]?=F h/\C9 h m)\/(∃(k:Nat) (h:HW) (j:Nat),s.1[k]?=F h/\Cq s k h j m)
structure PkOk(s:WSt)(q:Pk)(k j:Nat)(h g:HW):Prop where
 fr:q.1=(k:Int)
 dst:q.5=(j:Int)
 ne:k≠j
 hk:s.1[k]?=F h
 hj:s.1[j]?=F g
 m3:q.4.length<=3
 rt:∀x∈q.4,right x=aP
 ack:q.3=aP->q.4=[]/\q.2<=h.1.8 j
 bat:q.3=af->q.2<=h.1.7 j/\(g.1.8 k<q.2->q.4=Ej h.1 j)
structure Com(n:Nat)(s:WSt)(T:List Mg):Prop where
 len:s.1.length=n
 ap:T.Pairwise λa b=>a.1≠b.1
 mem:∀m,m∈T↔Q1K s m
 u1:∀(k:Nat) (h:HW) (k':Nat) (h':HW) (m m':Mg),s.1[k]?=F h->s.1[k']?=F h'->C9 h m->C9 h' m'->m.1=m'.1->k=k'
 u2:∀(k:Nat) (h:HW) (k':Nat) (h':HW) (j:Nat) (m m':Mg),s.1[k]?=F h->s.1[k']?=F h'->C9 h m->Cq s k' h' j m'->m.1≠m'.1
 own:∀(k:Nat) (h:HW),s.1[k]?=F h->∀m∈T,m.1%4=(k:Int)->m.1<4*h.1.5
 pr:∀(k:Nat) (h:HW) (j:Nat) (g:HW),k≠j->s.1[k]?=F h->s.1[j]?=F g->g.1.8 k<=h.1.7 j/\h.1.7 j<=g.1.8 k+1/\(h.1.6 j=[]->h.1.7 j=g.1.8 k)
 ar0:∀(k:Nat) (h:HW) (j:Nat),s.1[k]?=F h->(n<=j\/j=k)->h.1.8 j=0
 net:∀q∈s.2,∃k j h g,PkOk s q k j h g
section
variable{n k:Nat}{s:WSt}{T:List Mg}{h h':HW}
theorem QZ(hk:s.1[k]?=F h)(j:Nat):(s.setH k h').1[j]?=if j=k then F h' else s.1[j]?:=by
 show(s.1.set k h')[j]?=_;by_cases e:j=k
 ·subst e;rw[if_pos rfl,List.getElem?_set_self (G.1 hk).1]
 ·rw[if_neg e,List.getElem?_set_ne (λq=>e q.symm)]
theorem Ag(hk:s.1[k]?=F h):(s.setH k h').1[k]?=F h':=by rw[QZ hk,if_pos rfl]
theorem Aj(hk:s.1[k]?=F h){j:Nat}(e:j≠k):(s.setH k h').1[j]?=s.1[j]?:=by rw[QZ hk,if_neg e]
theorem Mp(a:∀(k:Nat) (h:HW),s.1[k]?=F h->h.1.3=(k:Int)){j:Nat}{g:HW}(hj:s.1[j]?=F g)(b:k<4)(e:k≠j):BX s k j=g.1.8 k:=by unfold BX;rw[hj];simp only;rw[if_pos];rw[a j g hj];exact AT.2 ⟨⟨O,O⟩,O⟩
theorem Gm(hk:s.1[k]?=F h)(d:h'.1.3=h.1.3)(a b:Nat)(c:b=k->h'.1.8 a=h.1.8 a):BX (s.setH k h') a b=BX s a b:=by
 unfold BX;by_cases e:b=k
 ·subst e;rw[Ag hk,hk];simp only;rw[d,c rfl]
 ·rw[Aj hk e]
theorem Com.same(r:Com n s T)(hk:s.1[k]?=F h)(P:SameC h h')(R:h'.1.3=h.1.3):Com n (s.setH k h') T:=by
 have Q:∀a b,BX (s.setH k h') a b=BX s a b:=λa b=>Gm hk R a b (λ_=>by rw[P.4]);have c:∀(j:Nat) (g:HW),(s.setH k h').1[j]?=F g->∃g0,s.1[j]?=F g0/\SameC g0 g/\g.1.3=g0.1.3:=λj g y=>by
  by_cases e:j=k
  ·subst e;rw[Ag hk]at y;obtain rfl:=ab y;exact⟨h,hk,P,R⟩
  ·rw[Aj hk e]at y;exact⟨g,y,SameC.refl g,rfl⟩
 have p:∀(j:Nat) (g0:HW),s.1[j]?=F g0->∃g,(s.setH k h').1[j]?=F g/\SameC g0 g/\g.1.3=g0.1.3:=λj g0 y=>by
  by_cases e:j=k
  ·subst e;rw[hk]at y;obtain rfl:=ab y;exact⟨h',Ag hk,P,R⟩
  ·exact⟨g0,by rw[Aj hk e];exact y,SameC.refl g0,rfl⟩
 have S:∀j g g0 b m,SameC g0 g->g.1.3=g0.1.3->(Cq (s.setH k h') j g b m↔Cq s j g0 b m):=λj g g0 b m a e=>by unfold Cq;rw[e,a.w,a.2,a.3,Q]
 refine⟨by show(s.1.set k h').length=n;rw[bf];exact r.1,r.2,λm=>?_,λa t b A m m' d f M N e=>?_,λa t b A j m m' d f M N=>?_,λa t d m U e=>?_,λa t b A ne d f=>?_,λa t j d f=>?_,λq hq=>?_⟩
 ·rw[r.3];constructor
  ·rintro(⟨a,g,d,f⟩|⟨a,g,j,d,f⟩)
   ·obtain⟨i,x,l,H⟩:=p a g d;exact aq ⟨a,i,x,(l.k m).2 f⟩
   ·obtain⟨i,x,l,H⟩:=p a g d;exact aC ⟨a,i,j,x,(S a i g j m l H).2 f⟩
  ·rintro(⟨a,g,d,f⟩|⟨a,g,j,d,f⟩)
   ·obtain⟨i,x,l,H⟩:=c a g d;exact aq ⟨a,i,x,(l.k m).1 f⟩
   ·obtain⟨i,x,l,H⟩:=c a g d;exact aC ⟨a,i,j,x,(S a g i j m l H).1 f⟩
 ·obtain⟨a0,v,o,-⟩:=c a t d;obtain⟨z,B,D,-⟩:=c b A f;exact r.4 a a0 b z m m' v B ((o.k m).1 M) ((D.k m').1 N) e
 ·obtain⟨a0,v,o,-⟩:=c a t d;obtain⟨z,B,D,V⟩:=c b A f;exact r.5 a a0 b z j m m' v B ((o.k m).1 M) ((S b A z j m' D V).1 N)
 ·obtain⟨a0,v,o,-⟩:=c a t d;rw[o.5];exact r.6 a a0 v m U e
 ·obtain⟨a0,v,o,-⟩:=c a t d;obtain⟨z,B,D,-⟩:=c b A f;rw[o.2,o.3,D.4];exact r.7 a a0 b z ne v B
 ·obtain⟨a0,v,o,-⟩:=c a t d;rw[o.4];exact r.8 a a0 j v f
 ·obtain⟨a,b,g,g2,u⟩:=r.9 q hq;obtain⟨i,x,l,-⟩:=p a g u.4;obtain⟨L,W,X,-⟩:=p b g2 u.5;refine⟨a,b,i,L,⟨u.1,u.2,u.3,x,W,u.6,u.7,λe=>?_,λe=>?_⟩⟩
  ·rw[l.4];exact u.8 e
  ·rw[l.2,X.4,l.dbl];exact u.9 e
theorem Com.nets(d:Com n s T){qs:List Pk}{lost:Int}(h:∀q∈qs,q∈s.2\/∃k j h g,PkOk s q k j h g):Com n {s with ps:=qs,lost:=lost} T:=⟨d.1,d.2,d.3,d.4,d.5,d.6,d.7,d.8,λq hq=>by
 rcases h q hq with e|⟨k,j,a,b,c⟩
 ·obtain⟨k,j,a,b,c⟩:=d.9 q e;exact⟨k,j,a,b,⟨c.1,c.2,c.3,c.4,c.5,c.6,c.7,c.8,c.9⟩⟩
 ·exact⟨k,j,a,b,⟨c.1,c.2,c.3,c.4,c.5,c.6,c.7,c.8,c.9⟩⟩⟩
theorem Com.rem(a:Com n s T)(i:Nat):Com n (s.rem i) T:=a.nets (lost:=s.3) (λq hq=>by
 rcases am.1 hq with h|h
 ·exact aq (List.mem_of_mem_take h)
 ·exact aq (List.mem_of_mem_drop h))
theorem Com.send(a:Com n s T){q:Pk}(b:∃k j h g,PkOk s q k j h g):Com n (s.send q) T:=by
 unfold WSt.send;split
 ·exact a.nets (lost:=s.3) (λx hx=>by
   rcases am.1 hx with h|h
   ·exact aq h
   ·obtain rfl:=aH.1 h;exact aC b)
 ·exact a.nets (qs:=s.2) (λx hx=>aq hx)
end
section
variable{n k:Nat}{s:WSt}{T:List Mg}{h h':HW}
theorem Com.turn(r:Com n s T)(hk:s.1[k]?=F h)(W:h'.1.3=h.1.3)(P:∀m,C9 h' m↔C9 h m)(x:h'.1.8=h.1.8)(S:h'.1.5=h.1.5)(Q:∀j m,Cq s k h' j m↔Cq s k h j m)(U:∀(j:Nat) (g:HW),k≠j->s.1[j]?=F g->g.1.8 k<=h'.1.7 j/\h'.1.7 j<=g.1.8 k+1/\(h'.1.6 j=[]->h'.1.7 j=g.1.8 k))(V:∀q∈s.2,∀j g,PkOk s q k j h g->q.3=af->q.2<=h'.1.7 j/\(g.1.8 k<q.2->q.4=Ej h'.1 j)):Com n (s.setH k h') T:=by
 have z:∀a b,BX (s.setH k h') a b=BX s a b:=λa b=>Gm hk W a b (λ_=>by rw[x]);have A:∀a g b m,Cq (s.setH k h') a g b m↔Cq s a g b m:=λa g b m=>by unfold Cq;rw[z]
 have i:∀(j:Nat) (g:HW),(s.setH k h').1[j]?=F g->(j=k/\g=h')\/(j≠k/\s.1[j]?=F g):=λj g u=>by
  by_cases e:j=k
  ·subst e;rw[Ag hk]at u;exact aq ⟨rfl,(ab u).symm⟩
  ·rw[Aj hk e]at u;exact aC ⟨e,u⟩
 have o:∀(a:Nat) (g:HW) m,(s.setH k h').1[a]?=F g->C9 g m->∃g0,s.1[a]?=F g0/\C9 g0 m:=λa g m f d=>by
  rcases i a g f with⟨rfl,rfl⟩|⟨-,l⟩
  ·exact⟨h,hk,(P m).1 d⟩
  ·exact⟨g,l,d⟩
 have v:∀(a:Nat) (g:HW) b m,(s.setH k h').1[a]?=F g->Cq (s.setH k h') a g b m->∃g0,s.1[a]?=F g0/\Cq s a g0 b m:=λa g b m f d=>by
  rw[A]at d;rcases i a g f with⟨rfl,rfl⟩|⟨-,l⟩
  ·exact⟨h,hk,(Q b m).1 d⟩
  ·exact⟨g,l,d⟩
 refine⟨by show(s.1.set k h').length=n;rw[bf];exact r.1,r.2,λm=>?_,λa p b t m m' f d l w e=>?_,λa p b t j m m' f d l w=>?_,λa p f m R e=>?_,λa p b t ne f d=>?_,λa p j f d=>?_,λq hq=>?_⟩
 ·rw[r.3];constructor
  ·rintro(⟨a,g,f,d⟩|⟨a,g,j,f,d⟩)
   ·by_cases e:a=k
    ·subst e;rw[hk]at f;obtain rfl:=ab f;exact aq ⟨a,h',Ag hk,(P m).2 d⟩
    ·exact aq ⟨a,g,by rw[Aj hk e];exact f,d⟩
   ·by_cases e:a=k
    ·subst e;rw[hk]at f;obtain rfl:=ab f;exact aC ⟨a,h',j,Ag hk,(A _ _ _ _).2 ((Q j m).2 d)⟩
    ·exact aC ⟨a,g,j,by rw[Aj hk e];exact f,(A _ _ _ _).2 d⟩
  ·rintro(⟨a,g,f,d⟩|⟨a,g,j,f,d⟩)
   ·obtain⟨g0,M,N⟩:=o a g m f d;exact aq ⟨a,g0,M,N⟩
   ·obtain⟨g0,M,N⟩:=v a g j m f d;exact aC ⟨a,g0,j,M,N⟩
 ·obtain⟨a0,B,D⟩:=o a p m f l;obtain⟨y,H,L⟩:=o b t m' d w;exact r.4 a a0 b y m m' B H D L e
 ·obtain⟨a0,B,D⟩:=o a p m f l;obtain⟨y,H,L⟩:=v b t j m' d w;exact r.5 a a0 b y j m m' B H D L
 ·rcases i a p f with⟨rfl,rfl⟩|⟨-,l⟩
  ·rw[S];exact r.6 a h hk m R e
  ·exact r.6 a p l m R e
 ·rcases i a p f with⟨rfl,rfl⟩|⟨-,l⟩
  ·rcases i b t d with⟨rfl,-⟩|⟨-,w⟩
   ·exact absurd rfl ne
   ·exact U b t ne w
  ·rcases i b t d with⟨rfl,rfl⟩|⟨-,w⟩
   ·rw[x];exact r.7 a p b h ne l hk
   ·exact r.7 a p b t ne l w
 ·rcases i a p f with⟨rfl,rfl⟩|⟨-,l⟩
  ·rw[x];exact r.8 a h j hk d
  ·exact r.8 a p j l d
 ·obtain⟨a,b,g,g2,c⟩:=r.9 q hq;by_cases e:a=k
  ·subst e;have u:g=h:=ab (c.4.symm.trans hk);subst u;refine⟨a,b,h',g2,⟨c.1,c.2,c.3,Ag hk,by rw[Aj hk (λq=>c.3 q.symm)];exact c.5,c.6,c.7,λe=>?_,λe=>V q hq b g2 c e⟩⟩;rw[x];exact c.8 e
  ·by_cases e2:b=k
   ·subst e2;have u:g2=h:=ab (c.5.symm.trans hk);subst u;refine⟨a,b,g,h',⟨c.1,c.2,c.3,by rw[Aj hk e];exact c.4,Ag hk,c.6,c.7,c.8,λe=>?_⟩⟩;rw[x];exact c.9 e
   ·exact⟨a,b,g,g2,⟨c.1,c.2,c.3,by rw[Aj hk e];exact c.4,by rw[Aj hk e2];exact c.5,c.6,c.7,c.8,c.9⟩⟩
theorem Com.made(u:Com n s T)(w:∀(k:Nat) (h:HW),s.1[k]?=F h->h.1.3=(k:Int))(x:k<4)(hk:s.1[k]?=F h){j:Nat}{g:HW}(hj:s.1[j]?=F g)(o:k≠j)(l:h.1.6 j=[])(y:Bq h.1 j≠[])(e:h'.1=J1 h.1 j):Com n (s.setH k h') T:=by
 obtain⟨-,-,D⟩:=u.7 k h j g o hk hj;have D:=D l;have v:=Mp w hj x o;have c:∀b,b≠j->h'.1.7 b=h.1.7 b/\h'.1.6 b=h.1.6 b:=λb f=>by rw[e];exact⟨Ac _ _ f,Ac _ _ f⟩
 have d:h'.1.7 j=h.1.7 j+1/\h'.1.6 j=Bq h.1 j:=by rw[e];exact⟨Ad _ _ _,Ad _ _ _⟩
 have t:h'.1.Q=h.1.Q:=by rw[e];rfl
 refine u.turn hk (by rw[e];rfl) (λm=>by unfold C9;rw[t]) (by rw[e];rfl) (by rw[e];rfl) (λb m=>?_) (λb r f B=>?_) (λq hq b r z A=>?_)
 ·unfold Cq Gh;rw[t,show h'.1.3=h.1.3 by rw[e];rfl];by_cases f:b=j
  ·subst f;rw[d.1,d.2,l,v];constructor
   ·rintro⟨p,a2,a3⟩;exact⟨p,a2,λq=>by cases q.2⟩
   ·rintro⟨p,a2,a3⟩;exact⟨p,a2,λq=>by have:=q.1;omega⟩
  ·rw[(c b f).1,(c b f).2]
 ·by_cases a:b=j
  ·subst a;have i:r=g:=ab (B.symm.trans hj);subst i;rw[d.1,d.2];exact⟨O,O,λq=>absurd q y⟩
  ·rw[(c b a).1,(c b a).2];exact u.7 k h b r f hk B
 ·by_cases a:b=j
  ·subst a;have i:r=g:=ab (z.5.symm.trans hj);subst i;obtain⟨p,a2⟩:=z.9 A;rw[d.1];exact⟨O,λq=>O⟩
  ·rw[(c b a).1];have H:Ej h'.1 b=Ej h.1 b:=by rw[Cg,Cg,t,(c b a).2]
   rw[H];exact z.9 A
theorem Com.came(y:Com n s T)(A:∀(k:Nat) (h:HW),s.1[k]?=F h->h.1.3=(k:Int))(B:k<4)(hk:s.1[k]?=F h){j:Nat}{g:HW}(hj:s.1[j]?=F g)(p:k≠j)(D:h.1.7 j<=g.1.8 k)(e:h'.1=Nr h.1 j):Com n (s.setH k h') T:=by
 obtain⟨R,S,-⟩:=y.7 k h j g p hk hj;have z:=Mp A hj B p;have c:∀b,b≠j->h'.1.6 b=h.1.6 b:=λb f=>by rw[e];exact Ac _ _ f
 have x:h'.1.6 j=[]:=by rw[e];exact Ad _ _ _
 have d:h'.1.7=h.1.7:=by rw[e];rfl
 have r:∀l,l≠aU j->h'.1.Q l=h.1.Q l:=λl P=>by rw[e];exact BG _ _ P
 have w:h'.1.Q (aU j)=Ah (h.1.6 j) (h.1.Q (aU j)):=by rw[e];exact EF _ _ _
 refine y.turn hk (by rw[e];rfl) (λm=>?_) (by rw[e];rfl) (by rw[e];rfl) (λb m=>?_) (λb t f M=>?_) (λq hq b t H L=>?_)
 ·unfold C9;constructor
  ·rintro⟨u,v⟩;rw[r _ oS]at v;exact⟨u,v⟩
  ·rintro⟨u,v⟩;exact⟨u,by rw[r _ oS];exact v⟩
 ·unfold Cq Gh;rw[show h'.1.3=h.1.3 by rw[e];rfl,d];by_cases f:b=j
  ·subst f;rw[x,w,BE,By,z];constructor
   ·rintro⟨o,⟨a2,a3⟩,-⟩;exact⟨o,a2,λq=>a3 q.2⟩
   ·rintro⟨o,a2,a3⟩;exact⟨o,⟨a2,λq=>a3 ⟨D,q⟩⟩,λq=>by cases q.2⟩
  ·rw[c b f,r _ (λq=>f (bz q))]
 ·rw[d];by_cases a:b=j
  ·subst a;have i:t=g:=ab (M.symm.trans hj);subst i;exact⟨R,S,λ_=>O⟩
  ·rw[c b a];exact y.7 k h b t f hk M
 ·rw[d];by_cases a:b=j
  ·subst a;have i:t=g:=ab (H.5.symm.trans hj);subst i;obtain⟨o,a2⟩:=H.9 L;exact⟨o,λq=>O⟩
  ·have N:Ej h'.1 b=Ej h.1 b:=by rw[Cg,Cg,r _ (λq=>a (bz q)),c b a]
   rw[N];exact H.9 L
end
section
variable{n k r:Nat}{s:WSt}{T:List Mg}{h h' f:HW}
theorem pt_iff(h:HW)(l:List Mg)(m:Mg):(m∈Gk h l\/m∈Gj h l)↔m∈l:=by have a:=(VW h.2 (λs=>h.1.Q (aT s)) l l.length (ae _)).1;have b:=(VX h.2 (λs=>h.1.Q (aT s)) l l.length (ae _)).2;rw[aI (ae _)]at a b;exact⟨a m,b m⟩
theorem VE(c:Fe s){a b d b':Nat}{g j:HW}{m m':Mg}(w:s.1[a]?=F g)(z:s.1[d]?=F j)(w1:Gh g b m)(N:Gh j b' m')(e:m.1=m'.1):a=d/\b=b'/\m=m':=by
 obtain⟨i,p,l⟩:=c a g w;obtain⟨P,Q,A⟩:=c d j z;obtain⟨x,u,R,o⟩:=EI w1;obtain⟨y,v,S,t⟩:=EI N;have L:=l.1.q.4 b x u;have M:=A.1.q.4 b' y v;rw[o,l.2]at L;rw[t,A.2,<-e]at M;have B:a=d:=O;subst B;have D:j=g:=ab (z.symm.trans w);subst D;have eb:b=b':=by apply aQ;intro H;exact l.1.q.2 (aU b) (aU b') x y (λq=>H (bz q)) u v (by rw[o,t];exact e)
 subst eb;have:=Cf (l.1.q.1 _).2 u v (by rw[o,t];exact e);exact⟨rfl,rfl,by rw[<-o,<-t,this]⟩
theorem Com.arr(B:Com n s T)(b1:Fe s)(t:s.1[r]?=F h)(hk:s.1[k]?=F f)(a5:k≠r)(b8:n<=4){l:List Mg}(hl:l=Ej f.1 r)(b7:f.1.7 r=h.1.8 k+1)(he:h'.1=Pa h.1 k (Gk h l) (Gj h l)):Com n (s.setH r h') T:=by
 have a9:∀(k:Nat) (h:HW),s.1[k]?=F h->h.1.3=(k:Int):=λk h hk=>by obtain⟨i,p,o⟩:=b1 k h hk;exact o.2
 have b6:k<n:=by rw[<-B.1];exact(G.1 hk).1
 have b9:r<n:=by rw[<-B.1];exact(G.1 t).1
 obtain⟨fi,fp,fo⟩:=b1 k f hk;have X:h'.1.3=h.1.3:=by rw[he];rfl
 have a0:h'.1.7=h.1.7:=by rw[he];rfl
 have W:h'.1.6=h.1.6:=by rw[he];rfl
 have a8:h'.1.5=h.1.5:=by rw[he];rfl
 have V:∀a,a≠k->h'.1.8 a=h.1.8 a:=λa z=>by rw[he];exact Ac _ _ z
 have P:h'.1.8 k=h.1.8 k+1:=by rw[he];exact Ad _ _ _
 have a7:∀j,h'.1.Q (aU j)=h.1.Q (aU j):=λj=>by rw[he];rfl
 have U:∀u,Ak (h'.1.Q (aT u))=Ak (h.1.Q (aT u))++F4 u (Gk h l)++(if u=AD then(Gj h l).map fr else []):=λu=>by rw[he];exact Jt u
 have b0:∀m,m∈l↔Gh f r m/\m.1∈f.1.6 r:=λm=>by rw[hl];exact MQ (fo.1.q.1 _)
 have hK:∀m,C9 h' m↔C9 h m\/m∈l:=λm=>by
  unfold C9;constructor
  ·rintro⟨u,L⟩;rw[U]at L;rcases am.1 L with L|L
   ·rcases am.1 L with L|L
    ·exact aq ⟨u,L⟩
    ·obtain⟨x,v,-,y⟩:=GD.1 L;have:m=x:=by injection y
     subst this;exact aC ((pt_iff h l m).1 (aq v))
   ·split at L
    ·obtain⟨x,v,y⟩:=aM.1 L;have:x=m:=by injection y
     subst this;exact aC ((pt_iff h l x).1 (aC v))
    ·cases L
  ·rintro(⟨u,L⟩|hm)
   ·exact⟨u,by rw[U];exact aO _ (aO _ L)⟩
   ·rcases(pt_iff h l m).2 hm with v|v
    ·exact⟨m.4,by rw[U];exact aO _ (bb _ (GD.2 ⟨m,v,rfl,rfl⟩))⟩
    ·exact⟨AD,by rw[U,if_pos rfl];exact bb _ (aM.2 ⟨m,v,rfl⟩)⟩
 have a4:∀a b,(a≠k\/b≠r)->BX (s.setH r h') a b=BX s a b:=λa b b5=>Gm t X a b (λA=>V a (b5.elim id (λq=>absurd A q)));have b3:BX (s.setH r h') k r=h.1.8 k+1:=by unfold BX;rw[Ag t];simp only;rw[if_pos,P];rw[X,a9 r h t];exact AT.2 ⟨⟨O,O⟩,O⟩
 have R:BX s k r=h.1.8 k:=Mp a9 t O a5;have c:∀(j:Nat) (g:HW),(s.setH r h').1[j]?=F g->(j=r/\g=h')\/(j≠r/\s.1[j]?=F g):=λj g D=>by
  by_cases e:j=r
  ·subst e;rw[Ag t]at D;exact aq ⟨rfl,(ab D).symm⟩
  ·rw[Aj t e]at D;exact aC ⟨e,D⟩
 have a6:∀(a:Nat) (g:HW) b m,(s.setH r h').1[a]?=F g->Cq (s.setH r h') a g b m->∃g0,s.1[a]?=F g0/\Cq s a g0 b m/\(a=k->b=r->m.1∉f.1.6 r):=λa g b m v d=>by
  rcases c a g v with⟨rfl,rfl⟩|⟨z,y⟩
  ·refine⟨h,t,?_,λq=>absurd q (λq=>a5 q.symm)⟩;unfold Cq Gh at d⊢;rw[X,a7,a0,W,a4 a b (aq (λq=>a5 q.symm))]at d;exact d
  ·by_cases A:a=k/\b=r
   ·obtain⟨rfl,rfl⟩:=A;have D:g=f:=ab (y.symm.trans hk);subst D;obtain⟨a1,a2,a3⟩:=d;rw[b3]at a3;refine⟨g,hk,⟨a1,a2,λq=>?_⟩,λ_ _ q=>a3 ⟨O,q⟩⟩;rw[R]at q;have:=q.1;omega
   ·refine⟨g,y,?_,λq1 S=>absurd ⟨q1,S⟩ A⟩;unfold Cq at d⊢;rw[a4 a b (by by_cases q:a=k;exact aC (λS=>A ⟨q,S⟩);exact aq q)]at d;exact d
 have M:∀m,m∈l->Cq s k f r m:=λm hm=>by
  refine⟨?_,((b0 m).1 hm).1,λq=>?_⟩
  ·rw[a9 k f hk];exact AT.2 ⟨⟨O,O⟩,O⟩
  ·rw[R]at q;have:=q.1;omega
 refine⟨by show(s.1.set r h').length=n;rw[bf];exact B.1,B.2,λm=>?_,λa z b A m m' v d y H e=>?_,λa z b A j m m' v d y H e=>?_,λa z v m hm e=>?_,λa z b A ne v d=>?_,λa z j v d=>?_,λq hq=>?_⟩
 ·rw[B.3];constructor
  ·rintro(⟨a,g,v,d⟩|⟨a,g,b,v,d⟩)
   ·by_cases e:a=r
    ·subst e;have D:g=h:=ab (v.symm.trans t);subst D;exact aq ⟨a,h',Ag t,(hK m).2 (aq d)⟩
    ·exact aq ⟨a,g,by rw[Aj t e];exact v,d⟩
   ·by_cases e:a=r
    ·subst e;have D:g=h:=ab (v.symm.trans t);subst D;refine aC ⟨a,h',b,Ag t,?_⟩;unfold Cq Gh at d⊢;rw[X,a7,a0,W,a4 a b (aq (λq=>a5 q.symm))];exact d
    ·by_cases A:a=k/\b=r
     ·obtain⟨rfl,rfl⟩:=A;have D:g=f:=ab (v.symm.trans hk);subst D;obtain⟨a1,a2,a3⟩:=d;by_cases hd:m.1∈g.1.6 b
      ·exact aq ⟨b,h',Ag t,(hK m).2 (aC ((b0 m).2 ⟨a2,hd⟩))⟩
      ·exact aC ⟨a,g,b,by rw[Aj t e];exact v,⟨a1,a2,λq=>hd q.2⟩⟩
     ·refine aC ⟨a,g,b,by rw[Aj t e];exact v,?_⟩;unfold Cq at d⊢;rw[a4 a b (by by_cases q:a=k;exact aC (λS=>A ⟨q,S⟩);exact aq q)];exact d
  ·rintro(⟨a,g,v,d⟩|⟨a,g,b,v,d⟩)
   ·rcases c a g v with⟨rfl,rfl⟩|⟨-,y⟩
    ·rcases(hK m).1 d with H|H
     ·exact aq ⟨a,h,t,H⟩
     ·exact aC ⟨k,f,a,hk,M m H⟩
    ·exact aq ⟨a,g,y,d⟩
   ·obtain⟨g0,q1,S,-⟩:=a6 a g b m v d;exact aC ⟨a,g0,b,q1,S⟩
 ·rcases c a z v with⟨rfl,rfl⟩|⟨e1,h5⟩
  ·rcases c b A d with⟨rfl,-⟩|⟨e2,h6⟩
   ·rfl
   ·rcases(hK m).1 y with N|N
    ·exact B.4 a h b A m m' t h6 N H e
    ·exact absurd e.symm (B.5 b A k f a m' m h6 hk H (M m N))
  ·rcases c b A d with⟨rfl,rfl⟩|⟨e2,h6⟩
   ·rcases(hK m').1 H with N|N
    ·exact B.4 a z b h m m' h5 t y N e
    ·exact absurd e (B.5 a z k f b m m' h5 hk y (M m' N))
   ·exact B.4 a z b A m m' h5 h6 y H e
 ·obtain⟨g0,q1,S,q3⟩:=a6 b A j m' d H;rcases c a z v with⟨rfl,rfl⟩|⟨e1,h5⟩
  ·rcases(hK m).1 y with N|N
   ·exact B.5 a h b g0 j m m' t q1 N S e
   ·obtain⟨rfl,rfl,rfl⟩:=VE b1 hk q1 (M m N).2.1 S.2.1 e;exact q3 rfl rfl ((b0 m).1 N).2
  ·exact B.5 a z b g0 j m m' h5 q1 y S e
 ·rcases c a z v with⟨rfl,rfl⟩|⟨-,y⟩
  ·rw[a8];exact B.6 a h t m hm e
  ·exact B.6 a z y m hm e
 ·rcases c a z v with⟨rfl,rfl⟩|⟨-,y⟩
  ·rcases c b A d with⟨rfl,-⟩|⟨-,H⟩
   ·exact absurd rfl ne
   ·rw[a0,W];exact B.7 a h b A ne t H
  ·rcases c b A d with⟨rfl,rfl⟩|⟨-,H⟩
   ·by_cases b2:a=k
    ·subst b2;have D:z=f:=ab (y.symm.trans hk);subst D;rw[P];exact⟨O,O,λ_=>O⟩
    ·rw[V a b2];exact B.7 a z b h ne y t
   ·exact B.7 a z b A ne y H
 ·rcases c a z v with⟨rfl,rfl⟩|⟨-,y⟩
  ·rw[V j O];exact B.8 a h j t d
  ·exact B.8 a z j y d
 ·obtain⟨a,b,g,g2,w⟩:=B.9 q hq;have b4:∀x,h.1.8 x<=h'.1.8 x:=λx=>by
   by_cases hx:x=k
   ·subst hx;rw[P];omega
   ·rw[V x hx];exact aX _
  by_cases e1:a=r
  ·subst e1;have D:g=h:=ab (w.4.symm.trans t);subst D;refine⟨a,b,h',g2,⟨w.1,w.2,w.3,Ag t,by rw[Aj t (λq=>w.3 q.symm)];exact w.5,w.6,w.7,λe=>⟨(w.8 e).1,aY (w.8 e).2 (b4 b)⟩,λe=>?_⟩⟩;have ed:Ej h'.1 b=Ej g.1 b:=by rw[Cg,Cg,a7,W]
   rw[a0,ed];exact w.9 e
  ·by_cases e2:b=r
   ·subst e2;have D:g2=h:=ab (w.5.symm.trans t);subst D;exact⟨a,b,g,h',⟨w.1,w.2,w.3,by rw[Aj t e1];exact w.4,Ag t,w.6,w.7,w.8,λe=>⟨(w.9 e).1,λq=>(w.9 e).2 (Int.lt_of_le_of_lt (b4 a) q)⟩⟩⟩
   ·exact⟨a,b,g,g2,⟨w.1,w.2,w.3,by rw[Aj t e1];exact w.4,by rw[Aj t e2];exact w.5,w.6,w.7,w.8,w.9⟩⟩
end
def Pend(s:WSt)(T:List Mg):Prop:=∀(k:Nat) (h:HW),s.1[k]?=F h->∀u,u<5->∀m∈Am (h.1.2 u),∀t∈T,t.1≠m.1
def Og(T:List Mg)(ds:List Dd):List Mg:=(T.filter λm=>aF (m.1∉AF ds))++Am ds
theorem mem_overT{T:List Mg}{ds:List Dd}{m:Mg}:m∈Og T ds↔(m∈T/\m.1∉AF ds)\/m∈Am ds:=by unfold Og;rw[am,bg,decide_eq_true_eq]
section
variable{n k i p:Nat}{s:WSt}{T:List Mg}{h h':HW}
theorem UB{A B:List Pl}{ids:List Int}(b:∀x∈B,x.m.1∉ids):((AA (A++B)).map Pl.m).filter (λm=>aF (m.1∈ids))=((AA A).map Pl.m).filter λm=>aF (m.1∈ids):=by
 have e:∀C:List Pl,((AA C).map Pl.m).filter (λm=>aF (m.1∈ids))=(AA (C.filter λx=>aF (x.m.1∈ids))).map Pl.m:=λC=>by unfold AA;rw[Dq,List.filter_map];rfl
 have a:B.filter (λx=>aF (x.m.1∈ids))=[]:=List.filter_eq_nil_iff.2 (λx hx=>by simpa using b x hx);rw[e,e,List.filter_append,a,bt]
theorem RB{Q:D3->List Pl}{did:Nat->List Dd}{id cnt:Int}(hq:QI Q did id cnt){u:Nat}(f:u<5)(j:Nat):Ef (aU j) (did u)=[]:=by apply List.eq_nil_iff_forall_not_mem.2;intro z g;obtain⟨d,b,c,e,-⟩:=CF.1 g;obtain⟨t,a,-⟩:=hq.7 u d f b c;rw[e]at a;cases a
theorem Q0i(e:HOk h k i p){u:Nat}(w:u<5)(r:∀l,h'.1.Q l=Cd h.1.Q u (h.1.2 u) l)(m:Mg):C9 h' m↔(C9 h m/\m.1∉AF (h.1.2 u))\/∃t,(∃d∈h.1.2 u,d.1=aP/\d.3=aT t/\d.m=m):=by
 unfold C9;constructor
 ·rintro⟨t,c⟩;rw[r,Eo,am]at c;rcases c with c|c
  ·obtain⟨a,b⟩:=By.1 c;refine aq ⟨⟨t,a⟩,λq=>?_⟩;obtain⟨d,f,g,j⟩:=DI.1 q;obtain⟨D,y,z⟩:=e.1.q.7 u d w f g;obtain⟨x,A,H,B⟩:=EI a;obtain⟨e1,-⟩:=e.1.q.one z A (by rw[B];exact j);subst e1;exact b (CF.2 ⟨d,f,g,y,j⟩)
  ·obtain⟨d,a,b,o,v⟩:=Da.1 c;have:m=d.m:=by injection v
   exact aC ⟨t,d,a,b,o,this.symm⟩
 ·rintro(⟨⟨t,a⟩,b⟩|⟨t,d,a,b,o,rfl⟩)
  ·refine⟨t,?_⟩;rw[r,Eo];refine aO _ (By.2 ⟨a,λq=>b ?_⟩);obtain⟨d,f,g,-,j⟩:=CF.1 q;exact DI.2 ⟨d,f,g,j⟩
  ·refine⟨t,?_⟩;rw[r,Eo];exact bb _ (Da.2 ⟨d,a,b,o,rfl⟩)
theorem Q0E(e:HOk h k i p){u:Nat}(o:u<5)(g:∀l,h'.1.Q l=Cd h.1.Q u (h.1.2 u) l)(j:Nat)(m:Mg):Gh h' j m↔Gh h j m\/∃d∈h.1.2 u,d.1=aP/\d.3=aU j/\d.m=m:=by
 unfold Gh;rw[g,Eo,RB e.1.q o,am];show fr m∈Ak (h.1.Q (aU j))\/_↔_;refine or_congr Iff.rfl ?_;rw[Da];constructor
 ·rintro⟨d,a,b,c,f⟩;have:m=d.m:=by injection f
  exact⟨d,a,b,c,this.symm⟩
 ·rintro⟨d,a,b,c,rfl⟩;exact⟨d,a,b,c,rfl⟩
theorem LI(a:HOk h k i p){u:Nat}(g:u<5){d:Dd}(e:d∈h.1.2 u)(f:d.1=aP){j:Nat}(hj:d.3=aU j):d.m.1∉h.1.6 j:=λq=>by obtain⟨r,b,t⟩:=a.1.q.6 u d g e f;obtain⟨x,l,o,c⟩:=a.1.16 j _ q;rw[hj]at b;have:=Cf (a.1.q.1 _).2 l b o;rw[this]at c;simp only at c;omega
theorem Com.over(M:Com n s T)(b7:Fe s)(hP:Pend s T)(hk:s.1[k]?=F h){u:Nat}(W:u<5)(he:h'.1=Nw h.1 u):Com n (s.setH k h') (Og T (h.1.2 u)):=by
 obtain⟨i,p,P⟩:=b7 k h hk;have a9:h'.1.3=h.1.3:=by rw[he];rfl
 have a7:h'.1.7=h.1.7:=by rw[he];rfl
 have a6:h'.1.6=h.1.6:=by rw[he];rfl
 have X:h'.1.8=h.1.8:=by rw[he];rfl
 have a0:h'.1.5=Bw h.1.5 (h.1.2 u):=by rw[he];rfl
 have eQ:∀l,h'.1.Q l=Cd h.1.Q u (h.1.2 u) l:=λl=>by rw[he];rfl
 obtain⟨b1,b2,-⟩:=EM (h.1.2 u) h.1.5;have hK:=Q0i P W eQ;have hW:=Q0E P W eQ;have b0:∀a b,BX (s.setH k h') a b=BX s a b:=λa b=>Gm hk a9 a b (λ_=>by rw[X]);have A:∀d∈h.1.2 u,d.1=aP->d.m∈Am (h.1.2 u)/\d.3=Bj h.1.3 d.m/\d.m.1%4=(k:Int):=λd hd v=>by obtain⟨y,w,S⟩:=P.1.q.6 u d W hd v;rw[P.2]at S;exact⟨AZ.2 ⟨d,hd,v,rfl⟩,y,S⟩
 have b3:∀z∈AF (h.1.2 u),∃m,C9 h m/\m.1=z:=λz hz=>by obtain⟨d,y,w,S⟩:=DI.1 hz;obtain⟨t,-,q5⟩:=P.1.q.7 u d W y w;exact⟨d.m,⟨t,Bf.2 ⟨_,q5,by simp[Pl.kept],rfl⟩⟩,S⟩
 have hN:∀j m,Cq (s.setH k h') k h' j m↔Cq s k h j m\/∃d∈h.1.2 u,d.1=aP/\d.3=aU j/\d.m=m:=λj m=>by
  unfold Cq;rw[a9,a7,a6,b0,hW];constructor
  ·rintro⟨a1,a2|a2,a3⟩
   ·exact aq ⟨a1,a2,a3⟩
   ·exact aC a2
  ·rintro(⟨a1,a2,a3⟩|⟨d,r,f,o,rfl⟩)
   ·exact⟨a1,aq a2,a3⟩
   ·refine⟨?_,aC ⟨d,r,f,o,rfl⟩,λq=>LI P W r f o q.2⟩;obtain⟨y,w,-⟩:=P.1.q.6 u d W r f;have hr:=(P.1.q.1 _).1 _ w;rw[y]at o;unfold Bj at o;split at o
    ·cases o
    ·rename_i hne;have e:=bz o;simp[right,KR]at hr;refine AT.2 ⟨⟨O,O⟩,?_⟩;omega
 have hn:∀a g b m,Cq (s.setH k h') a g b m↔Cq s a g b m:=λa g b m=>by unfold Cq;rw[b0]
 have B:∀(j:Nat) (g:HW),(s.setH k h').1[j]?=F g->(j=k/\g=h')\/(j≠k/\s.1[j]?=F g):=λj g V=>by
  by_cases e:j=k
  ·subst e;rw[Ag hk]at V;exact aq ⟨rfl,(ab V).symm⟩
  ·rw[Aj hk e]at V;exact aC ⟨e,V⟩
 have N:∀(a:Nat) (g:HW) m,(s.setH k h').1[a]?=F g->C9 g m->(∃g0,s.1[a]?=F g0/\C9 g0 m/\m.1∉AF (h.1.2 u))\/(a=k/\∃t,∃d∈h.1.2 u,d.1=aP/\d.3=aT t/\d.m=m):=λa g m r f=>by
  rcases B a g r with⟨rfl,rfl⟩|⟨D,o⟩
  ·rcases(hK m).1 f with⟨o,H⟩|o
   ·exact aq ⟨h,hk,o,H⟩
   ·exact aC ⟨rfl,o⟩
  ·refine aq ⟨g,o,f,λq=>?_⟩;obtain⟨x,x1,x2⟩:=b3 _ q;exact D (M.4 a g k h m x o hk f x1 x2.symm)
 have a5:∀(a:Nat) (g:HW) b m,(s.setH k h').1[a]?=F g->Cq (s.setH k h') a g b m->(∃g0,s.1[a]?=F g0/\Cq s a g0 b m/\m.1∉AF (h.1.2 u))\/(a=k/\∃d∈h.1.2 u,d.1=aP/\d.3=aU b/\d.m=m):=λa g b m r f=>by
  have nt:∀g0,s.1[a]?=F g0->Cq s a g0 b m->m.1∉AF (h.1.2 u):=λg0 y w q=>by obtain⟨x,x1,x2⟩:=b3 _ q;exact M.5 k h a g0 b x m hk y x1 w x2
  rcases B a g r with⟨rfl,rfl⟩|⟨D,o⟩
  ·rcases(hN b m).1 f with o|o
   ·exact aq ⟨h,hk,o,nt h hk o⟩
   ·exact aC ⟨rfl,o⟩
  ·have H:=(hn a g b m).1 f;exact aq ⟨g,o,H,nt g o H⟩
 have a8:∀(a:Nat) (g:HW) m,s.1[a]?=F g->C9 g m->m∈T:=λa g m r f=>(M.3 m).2 (aq ⟨a,g,r,f⟩);have b4:∀(a:Nat) (g:HW) b m,s.1[a]?=F g->Cq s a g b m->m∈T:=λa g b m r f=>(M.3 m).2 (aC ⟨a,g,b,r,f⟩);have a4:=hP k h hk u W;have one:∀d∈h.1.2 u,d.1=aP->∀c∈h.1.2 u,c.1=aP->d.m.1=c.m.1->d.m=c.m:=λd hd b6 c hc b5 e=>by
  obtain⟨y,w,-⟩:=P.1.q.6 u d W hd b6;obtain⟨R,L,-⟩:=P.1.q.6 u c W hc b5;by_cases hl:d.3=c.3
  ·rw[<-hl]at L;have:=Cf (P.1.q.1 _).2 w L e;injection this
  ·exact absurd e (P.1.q.2 _ _ _ _ hl w L)
 refine⟨by show(s.1.set k h').length=n;rw[bf];exact M.1,?_,λm=>?_,λa D b U m m' r f o H e=>?_,λa D b U j m m' r f o H e=>?_,λa D r m hm e=>?_,λa D b U ne r f=>?_,λa D j r f=>?_,λq hq=>?_⟩
 ·unfold Og;rw[ak];exact⟨M.2.filter _,P.1.q.8 u W,λa D b U=>a4 b U a (bg.1 D).1⟩
 ·rw[mem_overT,M.3];constructor
  ·rintro(⟨⟨a,g,r,f⟩|⟨a,g,j,r,f⟩,o⟩|hm)
   ·by_cases e:a=k
    ·subst e;have V:g=h:=ab (r.symm.trans hk);subst V;exact aq ⟨a,h',Ag hk,(hK m).2 (aq ⟨f,o⟩)⟩
    ·exact aq ⟨a,g,by rw[Aj hk e];exact r,f⟩
   ·by_cases e:a=k
    ·subst e;have V:g=h:=ab (r.symm.trans hk);subst V;exact aC ⟨a,h',j,Ag hk,(hN j m).2 (aq f)⟩
    ·exact aC ⟨a,g,j,by rw[Aj hk e];exact r,(hn _ _ _ _).2 f⟩
   ·obtain⟨d,r,f,rfl⟩:=AZ.1 hm;cases hl:d.3 with
    |inl t=>exact .inl ⟨k,h',Ag hk,(hK d.m).2 (.inr ⟨t,d,r,f,hl,rfl⟩)⟩
    |inr j=>exact .inr ⟨k,h',j,Ag hk,(hN j d.m).2 (.inr ⟨d,r,f,hl,rfl⟩)⟩
  ·rintro(⟨a,g,r,f⟩|⟨a,g,j,r,f⟩)
   ·rcases N a g m r f with⟨g0,y,w,S⟩|⟨-,t,d,y,w,-,rfl⟩
    ·exact aq ⟨aq ⟨a,g0,y,w⟩,S⟩
    ·exact aC (A d y w).1
   ·rcases a5 a g j m r f with⟨g0,y,w,S⟩|⟨-,d,y,w,-,rfl⟩
    ·exact aq ⟨aC ⟨a,g0,j,y,w⟩,S⟩
    ·exact aC (A d y w).1
 ·rcases N a D m r o with⟨g0,y,w,-⟩|⟨ea,t,d,y,w,-,rfl⟩
  ·rcases N b U m' f H with⟨g1,R,L,-⟩|⟨eb,t,d,R,L,-,rfl⟩
   ·exact M.4 a g0 b g1 m m' y R w L e
   ·exact absurd e (a4 _ (A d R L).1 m (a8 a g0 m y w))
  ·rcases N b U m' f H with⟨g1,R,L,-⟩|⟨eb,-⟩
   ·exact absurd e.symm (a4 _ (A d y w).1 m' (a8 b g1 m' R L))
   ·rw[ea,eb]
 ·rcases N a D m r o with⟨g0,y,w,-⟩|⟨ea,t,d,y,w,S,rfl⟩
  ·rcases a5 b U j m' f H with⟨g1,R,L,-⟩|⟨eb,d,R,L,-,rfl⟩
   ·exact M.5 a g0 b g1 j m m' y R w L e
   ·exact a4 _ (A d R L).1 m (a8 a g0 m y w) e
  ·rcases a5 b U j m' f H with⟨g1,R,L,-⟩|⟨eb,c,R,L,r3,rfl⟩
   ·exact a4 _ (A d y w).1 m' (b4 b g1 j m' R L) e.symm
   ·have:=one d y w c R L e;rw[(A d y w).2.1,this,<-(A c R L).2.1,r3]at S;cases S
 ·rcases mem_overT.1 hm with⟨o,-⟩|o
  ·rcases B a D r with⟨rfl,rfl⟩|⟨-,H⟩
   ·have:=M.6 a h hk m o e;rw[a0];omega
   ·exact M.6 a D H m o e
  ·obtain⟨d,H,h5,rfl⟩:=AZ.1 o;have h6:=(A d H h5).2.2;have:a=k:=O;rcases B a D r with⟨-,rfl⟩|⟨q,-⟩
   ·have:=b2 _ o;rw[a0];omega
   ·exact absurd this q
 ·rcases B a D r with⟨rfl,rfl⟩|⟨-,o⟩
  ·rcases B b U f with⟨rfl,-⟩|⟨-,H⟩
   ·exact absurd rfl ne
   ·rw[a7,a6];exact M.7 a h b U ne hk H
  ·rcases B b U f with⟨rfl,rfl⟩|⟨-,H⟩
   ·rw[X];exact M.7 a D b h ne o hk
   ·exact M.7 a D b U ne o H
 ·rcases B a D r with⟨rfl,rfl⟩|⟨-,o⟩
  ·rw[X];exact M.8 a h j hk f
  ·exact M.8 a D j o f
 ·obtain⟨a,b,g,g2,v⟩:=M.9 q hq;by_cases e1:a=k
  ·subst e1;have V:g=h:=ab (v.4.symm.trans hk);subst V;refine⟨a,b,h',g2,⟨v.1,v.2,v.3,Ag hk,by rw[Aj hk (λq=>v.3 q.symm)];exact v.5,v.6,v.7,λe=>?_,λe=>?_⟩⟩
   ·rw[X];exact v.8 e
   ·have ed:Ej h'.1 b=Ej g.1 b:=by rw[Cg,Cg,eQ,Eo,RB P.1.q W,a6];show((AA (Ak (g.1.Q (aU b))++_)).map Pl.m).filter _=_;refine UB (λx hx=>?_);obtain⟨d,y,w,S,rfl⟩:=Da.1 hx;exact LI P W y w S
    rw[a7,ed];exact v.9 e
  ·by_cases e2:b=k
   ·subst e2;have V:g2=h:=ab (v.5.symm.trans hk);subst V;refine⟨a,b,g,h',⟨v.1,v.2,v.3,by rw[Aj hk e1];exact v.4,Ag hk,v.6,v.7,v.8,λe=>?_⟩⟩;rw[X];exact v.9 e
   ·exact⟨a,b,g,g2,⟨v.1,v.2,v.3,by rw[Aj hk e1];exact v.4,by rw[Aj hk e2];exact v.5,v.6,v.7,v.8,v.9⟩⟩
end
def Jp(h:HW):Int:=h.1.8 0+h.1.8 1+h.1.8 2+h.1.8 3
structure WI(nms:Nat->List Nm)(n t:Nat)(s:WSt)(T:List Mg):Prop where
 n24:1<=n/\n<=4
 com:Com n s T
 ok:∃pb:Nat->Nat,pb 0+pb 1+pb 2+pb 3<=t/\∀(k:Nat) (h:HW),s.1[k]?=F h->∃i,HOk h k i (pb k)/\(i:Int)<=pb k+Jp h
 pend:Pend s T
 tn:∀(k:Nat) (h:HW),s.1[k]?=F h->∀u,(AF (h.1.2 u)).Nodup
 nm:∀(k:Nat) (h:HW),s.1[k]?=F h->h.2=nms k
 psl:s.2.length<=100
 lo:0<=s.3/\s.3<=t
section
variable{nms:Nat->List Nm}{n t k:Nat}{s:WSt}{T:List Mg}{h h':HW}
theorem WI.allOk(c:WI nms n t s T):Fe s:=λk h hk=>by obtain⟨pb,-,a⟩:=c.3;obtain⟨i,b,-⟩:=a k h hk;exact⟨i,pb k,b⟩
theorem WI.lt(a:WI nms n t s T)(hk:s.1[k]?=F h):k<n:=by rw[<-a.2.1];exact(G.1 hk).1
theorem WI.get(a:WI nms n t s T){j:Nat}(hj:j<n):∃g,s.1[j]?=F g:=by rw[<-a.2.1]at hj;exact⟨s.1[j],Y hj⟩
theorem WI.more(a:WI nms n t s T){b:Nat}(e:t<=b):WI nms n b s T:=by obtain⟨pb,d,c⟩:=a.3;have:=a.8;exact⟨a.1,a.2,⟨pb,O,c⟩,a.4,a.5,a.6,a.7,O⟩
theorem WI.ars(a:WI nms n t s T){pb:Nat->Nat}(c:∀(k:Nat) (h:HW),s.1[k]?=F h->∃i,HOk h k i (pb k)/\(i:Int)<=pb k+Jp h)(hk:s.1[k]?=F h)(j:Nat):h.1.8 j<=if j=k then 0 else(pb j:Int):=by
 by_cases e:j=k
 ·rw[if_pos e,a.2.8 k h j hk (aC e)];exact aX _
 ·rw[if_neg e];by_cases hj:j<n
  ·obtain⟨g,b⟩:=a.get hj;obtain⟨d,-,-⟩:=a.2.7 j g k h e b hk;obtain⟨i,o,-⟩:=c j g b;have:=(o.1.24 k).2;omega
  ·rw[a.2.8 k h j hk (aq O)];omega
theorem WI.small(a:WI nms n t s T){pb:Nat->Nat}(e:pb 0+pb 1+pb 2+pb 3<=t)(b:∀(k:Nat) (h:HW),s.1[k]?=F h->∃i,HOk h k i (pb k)/\(i:Int)<=pb k+Jp h)(hk:s.1[k]?=F h):(pb k:Int)+Jp h<=t/\pb k<=t:=by have d:=a.lt hk;have f:=a.1;have a0:=a.ars b hk 0;have c:=a.ars b hk 1;have a2:=a.ars b hk 2;have a3:=a.ars b hk 3;unfold Jp;have:k=0\/k=1\/k=2\/k=3:=O;rcases this with rfl|rfl|rfl|rfl<;>simp at a0 c a2 a3<;>omega
theorem WI.turn(a:WI nms n t s T)(B:t<=260)(hk:s.1[k]?=F h)(b:Nat){T':List Mg}(o:Com n (s.setH k h') T')(q:∀i p,HOk h k i p->i<300->p<300->(i:Int)<=p+Jp h->∃c,HOk h' k c (p+b)/\(c:Int)<=((p+b:Nat):Int)+Jp h')(v:Pend (s.setH k h') T')(l:∀u,(AF (h'.1.2 u)).Nodup)(f:h'.2=h.2):WI nms n (t+b) (s.setH k h') T':=by
 have r:=a.lt hk;have A:=a.1;obtain⟨pb,m,d⟩:=a.3;obtain⟨i,w,x⟩:=d k h hk;obtain⟨D,H⟩:=a.small m d hk;obtain⟨c,y,z⟩:=q i (pb k) w O O x;refine⟨a.1,o,⟨Ae pb k (pb k+b),?_,λj g hj=>?_⟩,v,λj g hj=>?_,λj g hj=>?_,a.7,by have:=a.8;show 0<=s.3/\s.3<=((t+b:Nat):Int);omega⟩
 ·have:k=0\/k=1\/k=2\/k=3:=O;rcases this with rfl|rfl|rfl|rfl<;>simp[Ae]<;>omega
 ·by_cases e:j=k
  ·subst e;rw[Ag hk]at hj;obtain rfl:=ab hj;rw[Ad];exact⟨c,y,z⟩
  ·rw[Aj hk e]at hj;rw[Ac _ _ e];exact d j g hj
 ·by_cases e:j=k
  ·subst e;rw[Ag hk]at hj;obtain rfl:=ab hj;exact l
  ·rw[Aj hk e]at hj;exact a.5 j g hj
 ·by_cases e:j=k
  ·subst e;rw[Ag hk]at hj;obtain rfl:=ab hj;rw[f];exact a.6 j h hk
  ·rw[Aj hk e]at hj;exact a.6 j g hj
theorem Pend.turn(a:Pend s T)(hk:s.1[k]?=F h)(b:∀u,u<5->∀m∈Am (h'.1.2 u),∀t∈T,t.1≠m.1):Pend (s.setH k h') T:=λj g hj=>by
 by_cases e:j=k
 ·subst e;rw[Ag hk]at hj;obtain rfl:=ab hj;exact b
 ·rw[Aj hk e]at hj;exact a j g hj
theorem WI.same(a:WI nms n t s T)(r:t<=260)(hk:s.1[k]?=F h)(l:Com n (s.setH k h') T)(q:∀i p,HOk h k i p->i<300->(i:Int)<=p+Jp h->∃f,HOk h' k f p/\(f:Int)<=(p:Int)+Jp h')(d:∀u,h'.1.2 u=h.1.2 u\/h'.1.2 u=[])(c:h'.2=h.2):WI nms n t (s.setH k h') T:=by
 refine a.turn r hk 0 l (λi p o g _ j=>q i p o g j) (a.4.turn hk (λu v m b=>?_)) (λu=>?_) c
 ·rcases d u with e|e
  ·rw[e]at b;exact a.4 k h hk u v m b
  ·rw[e]at b;cases b
 ·rcases d u with e|e
  ·rw[e];exact a.5 k h hk u
  ·rw[e];exact bW
end
section
variable{nms:Nat->List Nm}{n t k:Nat}{s:WSt}{T:List Mg}{h h':HW}
theorem WI.put(b:WI nms n t s T)(A:t<260)(hk:s.1[k]?=F h){u:Nat}(y:u<5)(q:ByteArray)(pri:Int)(body:ByteArray):WI nms n (t+1) (s.setH k (h.put u q pri body)) T:=by
 have f:=Wi h u q pri body;have c:(h.put u q pri body).1.3=h.1.3:=by unfold bY;split<;>rfl
 have d:(h.put u q pri body).2=h.2:=by unfold bY;split<;>rfl
 have w:=b.lt hk;have z:=b.1;refine b.turn O hk 1 (b.2.same hk f c) (λi p o j l r=>⟨i+1,o.put j l y q pri body,?_⟩) (b.4.turn hk (λv hv m a x hx=>?_)) (λv=>?_) d
 ·unfold Jp at r⊢;rw[f.4];omega
 ·unfold bY at a;split at a
  ·by_cases e:v=u
   ·subst e;have a:m∈Am (Ae h.1.2 v (h.1.2 v++[⟨aP,h.putM q pri body,Bj h.1.3 (h.putM q pri body)⟩]) v):=a;rw[Ad,Fs _ rfl,am]at a;rcases a with a|a
    ·exact b.4 k h hk v hv m a x hx
    ·obtain rfl:=aH.1 a;intro e;obtain⟨i,p,o⟩:=b.allOk k h hk;have e1:(h.putM q pri body).1=h.1.4*4+h.1.3:=rfl;have e2:=o.1.bn;have g:x.1=h.1.4*4+h.1.3:=e.trans e1;rw[o.2]at g;have:=b.2.6 k h hk x hx O;omega
   ·have a:m∈Am (Ae h.1.2 u (h.1.2 u++[⟨aP,h.putM q pri body,Bj h.1.3 (h.putM q pri body)⟩]) v):=a;rw[Ac _ _ e]at a;exact b.4 k h hk v hv m a x hx
  ·exact b.4 k h hk v hv m a x hx
 ·unfold bY;split
  ·show(AF (Ae h.1.2 u (h.1.2 u++[⟨aP,h.putM q pri body,Bj h.1.3 (h.putM q pri body)⟩]) v)).Nodup;by_cases e:v=u
   ·subst e;rw[Ad,LZ _ rfl];exact b.5 k h hk v
   ·rw[Ac _ _ e];exact b.5 k h hk v
  ·exact b.5 k h hk v
theorem U3{i p:Nat}(a:HOk h k i p){q:ByteArray}{x:Pl}(e:h.got q=F x):x∈h.1.Q (aT q)/\x.u<0:=by
 unfold HW.got at e;split at e
 ·exact⟨(BB (a.1.q.1 _)).mem_iff.1 (bl e),by have:x.free=aP:=bR e;simpa[Pl.free]using this⟩
 ·cases e
theorem WI.take(c:WI nms n t s T)(R:t<260)(hk:s.1[k]?=F h){u:Nat}(r:u<5)(q:ByteArray):WI nms n (t+1) (s.setH k (h.get u q)) T:=by
 obtain⟨i,p,o⟩:=c.allOk k h hk;have l:=Wh o u q;have g:(h.get u q).1.3=h.1.3:=by unfold bX;split<;>rfl
 have j:(h.get u q).2=h.2:=by unfold bX;split<;>rfl
 refine c.turn O hk 1 (c.2.same hk l g) (λi p o H L M=>⟨i+1,o.get H L r q,?_⟩) (c.4.turn hk (λv hv m f x hx=>?_)) (λv=>?_) j
 ·unfold Jp at M⊢;rw[l.4];omega
 ·unfold bX at f;split at f
  ·rename_i y e;have f:m∈Am (Ae h.1.2 u (h.1.2 u++[⟨af,y.m,aT q⟩]) v):=f;by_cases e:v=u
   ·subst e;rw[Ad,FG _ rfl]at f;exact c.4 k h hk v hv m f x hx
   ·rw[Ac _ _ e]at f;exact c.4 k h hk v hv m f x hx
  ·exact c.4 k h hk v hv m f x hx
 ·unfold bX;split
  ·rename_i y e;obtain⟨Q,w⟩:=U3 o e;show(AF (Ae h.1.2 u (h.1.2 u++[⟨af,y.m,aT q⟩]) v)).Nodup;by_cases e:v=u
   ·subst e;rw[Ad,Ku _ rfl];refine List.nodup_append.2 ⟨c.5 k h hk v,oS,λa N b P e=>?_⟩;obtain rfl:=aH.1 P;obtain⟨d,z,A,B⟩:=DI.1 N;obtain⟨S,-,D⟩:=o.1.q.7 v d r z A;obtain⟨-,e2⟩:=o.1.q.one D Q (by show d.m.1=y.m.1;rw[B,e]);rw[<-e2]at w;simp only at w;omega
   ·rw[Ac _ _ e];exact c.5 k h hk v
  ·exact c.5 k h hk v
theorem WI.comm_no(b:WI nms n t s T)(j:t<=260)(hk:s.1[k]?=F h){u:Nat}(l:u<5)(e:h.commE u≠0):WI nms n t (s.setH k (h.comm u)) T:=by
 have g:SameC h (h.comm u)/\(h.comm u).1.3=h.1.3/\(h.comm u).2=h.2/\(h.comm u).1.2=h.1.2:=by
  unfold cg at e;unfold HW.comm;split at e
  ·rename_i e1;rw[if_pos e1];exact⟨SameC.refl h,rfl,rfl,rfl⟩
  ·rename_i e1;rw[if_neg e1];refine⟨Ed e,?_⟩;by_cases e2:CN h=14
   ·rw[bq e2];exact⟨rfl,rfl,rfl⟩
   ·rw[bE e e2];exact⟨rfl,rfl,rfl⟩
 obtain⟨a,c,d,f⟩:=g;refine b.same j hk (b.2.same hk a c) (λi p o _ q=>⟨i,o.comm l,?_⟩) (λv=>aq (by rw[f])) d;unfold Jp at q⊢;rw[a.4];exact q
theorem Uw{u:Nat}(e:h.commE u=0):(h.comm u).1=Nw h.1 u/\(h.comm u).2=h.2:=by
 unfold cg at e;unfold HW.comm;split at e
 ·cases e
 ·rename_i e1;rw[if_neg e1,aR e];exact⟨rfl,rfl⟩
theorem WI.comm(a:WI nms n t s T)(P:t<=260)(hk:s.1[k]?=F h){u:Nat}(y:u<5)(e:h.commE u=0):WI nms n t (s.setH k (h.comm u)) (Og T (h.1.2 u)):=by
 obtain⟨e1,e2⟩:=Uw e;have N:=a.lt hk;have Q:=a.1;have b:(h.comm u).1.2=Ae h.1.2 u []:=by rw[e1];rfl
 refine a.turn P hk 0 (a.2.over a.allOk a.4 hk y e1) (λi p o _ _ q=>⟨i,o.comm y,?_⟩) (λj g hj v hv m f x hx=>?_) (λv=>?_) e2
 ·unfold Jp at q⊢;rw[show(h.comm u).1.8=h.1.8 by rw[e1];rfl];exact q
 ·obtain⟨i,p,o⟩:=a.allOk k h hk;have w:∀x∈Am (h.1.2 u),x.1%4=(k:Int):=λx hx=>by obtain⟨d,z,A,rfl⟩:=AZ.1 hx;obtain⟨-,-,M⟩:=o.1.q.6 u d y z A;rw[M,o.2]
  by_cases D:j=k
  ·subst D;rw[Ag hk]at hj;obtain rfl:=ab hj;rw[b]at f;by_cases r:v=u
   ·rw[r,Ad]at f;cases f
   ·rw[Ac _ _ r]at f;rcases mem_overT.1 hx with⟨l,-⟩|l
    ·exact a.4 j h hk v hv m f x l
    ·intro ex;obtain⟨d,z,A,rfl⟩:=AZ.1 l;obtain⟨c,c1,c2,rfl⟩:=AZ.1 f;obtain⟨-,B,-⟩:=o.1.q.6 u d y z A;obtain⟨-,c4,-⟩:=o.1.q.6 v c hv c1 c2;by_cases H:d.3=c.3
     ·rw[<-H]at c4;have:=Cf (o.1.q.1 _).2 B c4 ex;injection this with _ q _;omega
     ·exact o.1.q.2 _ _ _ _ H B c4 ex
  ·rw[Aj hk D]at hj;rcases mem_overT.1 hx with⟨l,-⟩|l
   ·exact a.4 j g hj v hv m f x l
   ·intro ex;obtain⟨R,S,L⟩:=a.allOk j g hj;obtain⟨c,c1,c2,rfl⟩:=AZ.1 f;obtain⟨-,-,c3⟩:=L.1.q.6 v c hv c1 c2;have:=w x l;rw[ex,c3,L.2]at this;omega
 ·rw[b];by_cases r:v=u
  ·rw[r,Ad];exact bW
  ·rw[Ac _ _ r];exact a.5 k h hk v
theorem WI.back(a:WI nms n t s T)(c:t<=260)(hk:s.1[k]?=F h){u:Nat}(d:u<5):WI nms n t (s.setH k (h.back u)) T:=by
 have b:=Th h u;refine a.same c hk (a.2.same hk b (by unfold bZ;split<;>rfl)) (λi p o _ q=>⟨i,o.back d,?_⟩) (λv=>?_) (by unfold bZ;split<;>rfl)
 ·unfold Jp at q⊢;rw[b.4];exact q
 ·unfold bZ;split
  ·show Ae h.1.2 u [] v=_\/Ae h.1.2 u [] v=_;by_cases e:v=u
   ·rw[e,Ad];exact aC rfl
   ·rw[Ac _ _ e];exact aq rfl
  ·exact aq rfl
theorem WI.cutT(a:WI nms n t s T)(d:t<=260)(hk:s.1[k]?=F h){c:Int}(b:c<=9223372036854775807)(tn:Int):WI nms n t (s.setH k (h.cutT c tn)) T:=a.same d hk (a.2.same hk (Ti h c tn) rfl) (λi _ o _ q=>⟨i,o.cutT b tn,q⟩) (λ_=>aq rfl) rfl
theorem WI.cut(a:WI nms n t s T)(d:t<=260)(hk:s.1[k]?=F h){c:Int}(b:c<=9223372036854775807):WI nms n t (s.setH k (h.cut c)) T:=a.same d hk (a.2.same hk (Ou h c) rfl) (λi _ o _ q=>⟨i,o.cut b,q⟩) (λ_=>aq rfl) rfl
theorem WI.anew(b:WI nms n t s T)(c:t<=260)(hk:s.1[k]?=F h)(a:Nat):WI nms n t (s.setH k ((h.cut (-1)).anew a)) T:=b.same c hk (b.2.same hk ((Ou h (-1)).trans (Tg _ a)) rfl) (λi _ o _ q=>⟨i,((o.cut O).anew a).1,q⟩) (λ_=>aC rfl) rfl
end
def On(h:HW):Prop:=h.1.9=af/\h.d.2=af
theorem Nf{h:HW}{c:Ch}{rs':DZ}{ns':List Nm}{n:Nat}(d:rs'.2=h.1.2)(f:rs'.9=h.1.9):(h.wr c rs' ns' n).1.2=h.1.2/\(On h->On (h.wr c rs' ns' n)):=by
 by_cases e:CN h=0
 ·rw[aR e];exact⟨d,λo=>⟨f.trans o.1,o.2⟩⟩
 ·by_cases e2:CN h=14
  ·refine⟨by rw[bq e2],λo=>absurd e2 ?_⟩;unfold CN;rw[o.1,o.2];simp;split<;>simp
  ·rw[bE e e2];exact⟨rfl,id⟩
theorem Um(h:HW)(far:Int):(h.bat far).1.2=h.1.2/\(On h->On (h.bat far)):=by
 unfold cf;split
 ·exact Nf rfl rfl
 ·exact⟨rfl,id⟩
theorem R1(h:HW)(far n:Int):(h.came far n).1.2=h.1.2/\(On h->On (h.came far n)):=by
 unfold ce;split
 ·exact⟨rfl,id⟩
 ·exact Nf rfl rfl
theorem Nn(h:HW)(far n:Int)(l:List Mg):(aG ag h far n l).1.2=h.1.2/\(On h->On (aG ag h far n l)):=by
 unfold aG;split
 ·exact Nf rfl rfl
 ·exact⟨rfl,id⟩
theorem RL{h:HW}{c:Ch}{rs':DZ}{n:Nat}:(h.wr c rs' h.2 n).2=h.2:=by
 by_cases e:CN h=0
 ·rw[aR e]
 ·by_cases e2:CN h=14
  ·rw[bq e2]
  ·rw[bE e e2]
theorem Xg{h:HW}{c:Ch}{rs':DZ}{ns':List Nm}{n:Nat}(d:rs'.3=h.1.3):(h.wr c rs' ns' n).1.3=h.1.3:=by
 by_cases e:CN h=0
 ·rw[aR e];exact d
 ·by_cases e2:CN h=14
  ·rw[bq e2]
  ·rw[bE e e2]
theorem Yo{ids:List Int}{l:List Mg}(e:l.Pairwise λa b=>a.1≠b.1)(d:∀m∈l,m.1∈ids):l.length<=ids.length:=by have:=FF (A:=l.map fr) (B:=ids.map λz=>fr {El with id:=z}) (aK.2 e) (λx hx=>by obtain⟨m,c,rfl⟩:=aM.1 hx;exact⟨_,aM.2 ⟨m.1,d m c,rfl⟩,rfl⟩);rwa[bS,bS]at this
section
variable{nms:Nat->List Nm}{n t k a b i p:Nat}{s:WSt}{T:List Mg}{h h' g:HW}
theorem Z0(d:HOk h k i p)(j:Nat):(Ej h.1 j).length<=3/\∀x∈Ej h.1 j,right x=aP:=by
 have c:=d.1.q.1 (aU j);constructor
 ·refine Nat.le_trans (Yo (ids:=h.1.6 j) ?_ (λm l=>((MQ c).1 l).2)) (d.1.17 j).2;rw[Cg];refine List.Pairwise.filter _ (aK.2 ?_);exact((BB (Fj c)).pairwise_iff (λ{_ _} q e=>q e.symm)).2 (Fj c).2
 ·intro x hx;obtain⟨y,f,-,rfl⟩:=EI ((MQ c).1 hx).1;exact c.1 y f
theorem WI.nets(c:WI nms n t s T){qs:List Pk}{lost:Int}{d:Nat}(j:t<=d)(e:Com n {s with ps:=qs,lost:=lost} T)(hq:qs.length<=100)(f:0<=lost/\lost<=d):WI nms n d {s with ps:=qs,lost:=lost} T:=⟨c.1,e,(c.more j).3,c.4,c.5,c.6,hq,f⟩
theorem WI.rem(c:WI nms n t s T)(i:Nat):WI nms n t (s.rem i) T:=c.nets (lost:=s.3) (ae _) (c.2.rem i) (by rw[E,ai,ay];have:=c.7;omega) c.8
theorem WI.send(d:WI nms n t s T){q:Pk}(l:∃k j h g,PkOk s q k j h g):WI nms n (t+1) (s.send q) T:=by
 have c:=d.2.send l;have f:=d.8;unfold WSt.send at c⊢;split
 ·rename_i e;rw[if_pos e]at c;exact d.nets (lost:=s.3) (bO _) c (by rw[E,aJ];omega) O
 ·rename_i e;rw[if_neg e]at c;exact d.nets (qs:=s.2) (bO _) c d.7 O
theorem WI.sendF(d:WI nms n t s T)(e:s.2.length<100){q:Pk}(f:∃k j h g,PkOk s q k j h g):WI nms n t (s.send q) T:=by have c:=d.2.send f;unfold WSt.send at c⊢;rw[if_pos e]at c⊢;exact d.nets (lost:=s.3) (ae _) c (by rw[E,aJ];omega) d.8
theorem WI.bat(c:WI nms n t s T)(x:t<=260)(hk:s.1[k]?=F h){far:Nat}(r:far<n):WI nms n t (s.setH k (h.bat (far:Int))) T:=by
 have w:=c.lt hk;have y:=c.1;obtain⟨g,u⟩:=c.get r;have d:∀(k:Nat) (h:HW),s.1[k]?=F h->h.1.3=(k:Int):=λk h hk=>by obtain⟨i,p,o⟩:=c.allOk k h hk;exact o.2
 have l:Com n (s.setH k (h.bat (far:Int))) T/\(h.bat (far:Int)).1.8=h.1.8:=by
  unfold cf;split
  ·rename_i e;obtain⟨e1,e2,j⟩:=Js e.1;obtain⟨-,m⟩:=AT.1 e1;rw[d k h hk]at m;rw[ao]at e j⊢;by_cases f:CN h=0
   ·rw[aR f];refine⟨c.2.made d O hk u O e.2 ?_ rfl,rfl⟩;unfold Bq;intro q;have q:=List.map_eq_nil_iff.1 q;rw[List.take_eq_nil_iff]at q;rcases q with q|q
    ·cases q
    ·exact j e.2 q
   ·exact⟨c.2.same hk (Ed f) (Xg rfl),(Ed f).4⟩
  ·exact⟨c.2.same hk (SameC.refl h) rfl,rfl⟩
 refine c.same x hk l.1 (λi p o _ q=>⟨i,o.bat _,?_⟩) (λv=>aq (by rw[(Um h _).1])) ?_
 ·unfold Jp at q⊢;rw[l.2];exact q
 ·unfold cf;split
  ·exact RL
  ·rfl
theorem Uo(c:WI nms n t s T)(v:t<=260)(hk:s.1[k]?=F h){far:Nat}(l:far<n)(e:h.batE (far:Int)=0):∃a b x y,PkOk (s.setH k (h.bat (far:Int))) ⟨(k:Int),h.batN (far:Int),af,h.batL (far:Int),(far:Int)⟩ a b x y:=by
 obtain⟨g,m⟩:=c.get l;obtain⟨i,p,o⟩:=c.allOk k h hk;have eb:Pb h.st (far:Int)=0:=by
  unfold HW.batE at e;split at e
  ·rename_i q;exact absurd e q
  ·rename_i q;simpa using q
 obtain⟨e1,-,-⟩:=Js eb;obtain⟨-,j⟩:=AT.1 e1;rw[o.2]at j;have r:h.batL (far:Int)=Ej (h.bat (far:Int)).1 far:=by unfold HW.batL;rw[if_pos e,ao]
 have u:h.batN (far:Int)=(h.bat (far:Int)).1.7 far:=by unfold HW.batN;rw[if_pos e,ao]
 obtain⟨d,f⟩:=Z0 (o.bat (far:Int)) far;rw[r,u];exact⟨k,far,h.bat (far:Int),g,⟨rfl,rfl,O,Ag hk,by rw[Aj hk O];exact m,d,f,λq=>(by cases q),λ_=>⟨aX _,λ_=>rfl⟩⟩⟩
theorem WI.sendB(c:WI nms n t s T)(f:t<=260)(hk:s.1[k]?=F h){far:Nat}(d:far<n):WI nms n (t+1) (s.sendB k h far) T:=by
 unfold WSt.sendB;split
 ·rename_i e;exact(c.bat f hk d).send (Uo c f hk d e)
 ·exact(c.bat f hk d).more (bO _)
theorem WI.sendB0(c:WI nms n t s T)(f:t<=260)(j:s.2=[])(hk:s.1[k]?=F h){far:Nat}(d:far<n):WI nms n t (s.sendB k h far) T:=by
 unfold WSt.sendB;split
 ·rename_i e;exact(c.bat f hk d).sendF (by show s.2.length<100;rw[j];decide) (Uo c f hk d e)
 ·exact c.bat f hk d
theorem WI.came(d:WI nms n t s T)(w:t<=260){q:Pk}(c:PkOk s q a b h g)(r:q.3=aP):WI nms n t (s.setH b (g.came q.1 q.2)) T:=by
 have u:=d.lt c.5;have x:=d.1;have j:∀(k:Nat) (h:HW),s.1[k]?=F h->h.1.3=(k:Int):=λk h hk=>by obtain⟨i,p,o⟩:=d.allOk k h hk;exact o.2
 have l:Com n (s.setH b (g.came q.1 q.2)) T/\(g.came q.1 q.2).1.8=g.1.8:=by
  unfold ce;split
  ·exact⟨d.2.same c.5 (SameC.refl g) rfl,rfl⟩
  ·rename_i e;obtain⟨e1,-,-,m⟩:=Nq (by simpa using e);rw[c.1,ao]at m⊢;by_cases f:CN g=0
   ·rw[aR f];refine⟨d.2.came j O c.5 c.4 (λq=>c.3 q.symm) ?_ rfl,rfl⟩;have:=(c.8 r).2;omega
   ·exact⟨d.2.same c.5 (Ed f) (Xg rfl),(Ed f).4⟩
 refine d.same w c.5 l.1 (λi p o _ q=>⟨i,o.came _ _,?_⟩) (λv=>aq (by rw[(R1 g _ _).1])) ?_
 ·unfold Jp at q⊢;rw[l.2];exact q
 ·unfold ce;split
  ·rfl
  ·exact RL
end
section
variable{nms:Nat->List Nm}{n t k a b i p:Nat}{s:WSt}{T:List Mg}{h h' g:HW}
theorem Xv(g c:HW)(d:a<4)(e:c.1.8=Ae g.1.8 a (g.1.8 a+1)):Jp c=Jp g+1:=by unfold Jp;rw[e];have:a=0\/a=1\/a=2\/a=3:=O;rcases this with rfl|rfl|rfl|rfl<;>simp[Ae]<;>omega
theorem WI.arr(d:WI nms n t s T)(w:t<=260){q:Pk}(c:PkOk s q a b h g)(L:q.3=af):WI nms n t (s.setH b (aG ag g q.1 q.2 q.4)) T:=by
 have M:=d.lt c.4;have N:=d.lt c.5;have P:=d.1;have m3:=c.6;by_cases e:HW.arF ag g q.1 q.2 q.4=0/\¬q.2<=g.1.8 q.1.toNat
 ·by_cases m:CN g=0
  ·obtain⟨U,V,H⟩:=d.allOk b g c.5;obtain⟨-,-,x,-,-⟩:=Gl H.1 e.1 e.2;have l:aG ag g q.1 q.2 q.4=g.wr (BV a (Gk g q.4) (Gj g q.4)) (Pa g.1 a (Gk g q.4) (Gj g q.4)) g.2 ((Gk g q.4).length+(Gj g q.4).length):=by unfold aG;rw[if_pos e,c.1,ao]
   rw[c.1,ao]at x;obtain⟨R,B⟩:=c.9 L;obtain⟨W,X,-⟩:=d.2.7 a h b g c.3 c.4 c.5;have y:(aG ag g q.1 q.2 q.4).1=Pa g.1 a (Gk g q.4) (Gj g q.4):=by rw[l,aR m]
   refine d.same w c.5 (d.2.arr d.allOk c.5 c.4 c.3 P.2 (B O) O y) (λi p o z u=>⟨i+1,o.arr z _ _ O,?_⟩) (λv=>aq (by rw[(Nn g _ _ _).1])) (by rw[l];exact RL);rw[Xv (a:=a) g _ O (by rw[y];rfl)];omega
  ·have A:SameC g (aG ag g q.1 q.2 q.4):=by unfold aG;rw[if_pos e];exact Ed m
   refine d.same w c.5 (d.2.same c.5 A ?_) (λi p o z u=>⟨i,?_,?_⟩) (λv=>aq (by rw[(Nn g _ _ _).1])) ?_
   ·unfold aG;rw[if_pos e];exact Xg rfl
   ·obtain⟨e1,e2,x,D,r⟩:=Gl o.1 e.1 e.2;obtain⟨⟨f0,S⟩,-⟩:=AT.1 e1;have f:=(o.1.new D r).1;have j:=(EB g.2 (λs=>g.1.Q (aT s)) q.4).1;have j:(Gk g q.4).length+(Gj g q.4).length=q.4.length:=j;unfold aG;rw[if_pos e];refine o.wr (Gs O f.1 f.2 ⟨by show(Gk g q.4).length<=_;omega,by show(Gj g q.4).length<=_;omega⟩) rfl ?_ (ae _) O (λr=>absurd r m) (λ_ {_ _ _ _} q=>q);show(Gk g q.4).length+(Gj g q.4).length<=(Gk g q.4).length+(Gj g q.4).length+0;omega
   ·unfold Jp at u⊢;rw[A.4];exact u
   ·unfold aG;rw[if_pos e];exact RL
 ·have l:aG ag g q.1 q.2 q.4=g:=by unfold aG;rw[if_neg e]
  rw[l];exact d.same w c.5 (d.2.same c.5 (SameC.refl g) rfl) (λi p o _ q=>⟨i,o,q⟩) (λ_=>aq rfl) rfl
theorem Q1g(g:HW)(a:Nat)(nu:Int)(l:List Mg)(e:cd ag g (a:Int) nu l=0):HW.arrV ag g (a:Int) nu l<=(aG ag g (a:Int) nu l).1.8 a:=by
 have d:HW.arF ag g (a:Int) nu l=0:=by apply aQ;intro q;unfold cd at e;rw[if_pos q]at e;exact q e
 unfold HW.arrV;rw[if_pos e,ao];by_cases c:nu<=g.1.8 a
 ·rw[if_pos c];unfold aG;rw[if_neg (by rw[ao];exact λq=>q.2 c)];exact aX _
 ·rw[if_neg c];unfold cd at e;rw[if_neg (by simpa using d),ao,if_neg c]at e;unfold aG;rw[if_pos (by rw[ao];exact⟨d,c⟩),aR e,ao];show _<=Ae g.1.8 a (g.1.8 a+1) a;rw[Ad];exact aX _
theorem WI.comes(d:WI nms n t s T)(f:t<=260)(j:s.2.length<100){q:Pk}(c:PkOk s q a b h g):WI nms n t (WSt.comes ag s b g q) T:=by
 unfold WSt.comes;split
 ·rename_i e;exact d.came f c e
 ·rename_i e;have e:q.3=af:=by simpa using e
  split
  ·rename_i e2;refine(d.arr f c e).sendF j ⟨b,a,_,h,⟨c.2,c.1,λq=>c.3 q.symm,Ag c.5,by rw[Aj c.5 c.3];exact c.4,oS,oS,λ_=>⟨rfl,?_⟩,λq=>(by cases q)⟩⟩;rw[c.1]at e2⊢;exact Q1g g a q.2 q.4 e2
  ·exact d.arr f c e
theorem PkOk.rem{q:Pk}(c:PkOk s q a b h g)(j:Nat):PkOk (s.rem j) q a b h g:=⟨c.1,c.2,c.3,c.4,c.5,c.6,c.7,c.8,c.9⟩
theorem YI{j:Nat}(hj:j<s.2.length):(s.rem j).2.length+1=s.2.length:=by show(s.2.take j++s.2.drop (j+1)).length+1=_;rw[E,ai,ay];omega
theorem WI.deliver(c:WI nms n t s T)(l:t<=260){j:Nat}{q:Pk}(hj:s.2[j]?=F q):∃(k:Nat) (h:HW) (i p:Nat),T8 s q k h i p/\WI nms n t (WSt.comes ag (s.rem j) k h q) T:=by obtain⟨a,b,h,g,d⟩:=c.2.9 q (bd hj);obtain⟨i,p,o⟩:=c.allOk b g d.5;have e:=(G.1 hj).1;have m:=YI e;have r:=c.7;have f:=c.8;have m3:=d.6;exact⟨b,g,i,p,⟨d.2,d.5,o,c.7,O,O,d.7⟩,(c.rem j).comes l O (d.rem j)⟩
end
section
variable{nms:Nat->List Nm}{n t k i p:Nat}{s:WSt}{T:List Mg}{h:HW}
theorem L0{A:List Pl}(c:Fit A):(Ao Pl.kept (AA A)).Pairwise λa b=>a.1≠b.1:=by rw[Gg];refine aK.2 ?_;exact((BB (Fj c)).pairwise_iff (λ{_ _} q e=>q e.symm)).2 (Fj c).2
theorem Lt(b:HOk h k i p){ks:List ByteArray}(d:D2 (λt=>h.1.Q (aT t)) ks){m:Mg}:m∈AW (λt=>h.1.Q (aT t)) ks↔C9 h m:=by
 unfold AW C9;rw[br];constructor
 ·rintro⟨u,-,a⟩;exact⟨u,(Ez (b.1.q.1 _)).1 a⟩
 ·rintro⟨u,a⟩;obtain⟨x,c,-,-⟩:=EI a;refine⟨u,?_,(Ez (b.1.q.1 _)).2 a⟩;apply aQ;intro q;have:h.1.Q (aT u)=[]:=d.2 u q;rw[this]at c;cases c
theorem Lu(c:HOk h k i p){m:Mg}:m∈Dz s k h.1 4↔∃j,Cq s k h j m:=by
 unfold Dz;rw[br];constructor
 ·rintro⟨j,-,hj⟩;unfold Lw at hj;split at hj
  ·rename_i e;obtain⟨a,b⟩:=(MR (c.1.q.1 _)).1 hj;exact⟨j,e,a,b⟩
  ·cases hj
 ·rintro⟨j,e,a,b⟩;obtain⟨⟨d,f⟩,-⟩:=AT.1 e;refine⟨j,List.mem_range.2 O,?_⟩;unfold Lw;rw[if_pos e];exact(MR (c.1.q.1 _)).2 ⟨a,b⟩
theorem led_apart(g:WI nms n t s T)(hk:s.1[k]?=F h){l:List Mg}(d:Uc s k h l):(l.Pairwise λa b=>a.1≠b.1)/\∀m,m∈l↔C9 h m\/∃j,Cq s k h j m:=by
 obtain⟨ks,r,rfl⟩:=d;obtain⟨i,p,o⟩:=g.allOk k h hk;refine⟨ak.2 ⟨?_,?_,λa H b L=>?_⟩,λm=>by rw[am,Lt o r,Lu o]⟩
 ·unfold AW;rw[bL,bc];refine⟨λl d=>?_,?_⟩
  ·obtain⟨u,-,rfl⟩:=aM.1 d;exact L0 (o.1.q.1 _)
  ·refine aK.2 (r.1.imp (λ{u v} c x hx y A e=>?_));obtain⟨x',M,-,rfl⟩:=EI ((Ez (o.1.q.1 _)).1 hx);obtain⟨y',N,-,rfl⟩:=EI ((Ez (o.1.q.1 _)).1 A);exact c (o.1.q.one M N e).1
 ·unfold Dz;rw[bL,bc];refine⟨λl d=>?_,?_⟩
  ·obtain⟨j,-,rfl⟩:=aM.1 d;unfold Lw;split
   ·unfold Xo;exact(L0 (o.1.q.1 _)).filter _
   ·exact List.Pairwise.nil
  ·refine aK.2 (List.nodup_range.imp (λ{u v} c x hx y A e=>?_));have w:∀(j:Nat) (z:Mg),z∈Lw h.1 j (BX s k j)->Gh h j z:=λj z f=>by
    unfold Lw at f;split at f
    ·exact((MR (o.1.q.1 _)).1 f).1
    ·cases f
   exact c (VE g.allOk hk hk (w u x hx) (w v y A) e).2.1
 ·have B:=(Lt o r).1 H;obtain⟨j,D⟩:=(Lu o).1 L;exact g.2.5 k h k h j a b hk hk B D
theorem Vs(c:WI nms n t s T){l:List Mg}(N:LedN s n l):l.Perm T:=by
 obtain⟨z,rfl,A,v⟩:=N;have r:∀(k:Nat) (x:List Mg),z[k]?=F x->∃h,s.1[k]?=F h/\Uc s k h x:=λk x hx=>by obtain⟨g,B⟩:=c.get (j:=k) (by rw[<-A];exact(G.1 hx).1);exact⟨g,B,v k g x B hx⟩
 have Q:z.flatten.Pairwise λa b=>a.1≠b.1:=by
  rw[bc];refine⟨λx hx=>?_,?_⟩
  ·obtain⟨k,hk⟩:=bB hx;obtain⟨h,d,w⟩:=r k x hk;exact(led_apart c d w).1
  ·rw[bo];intro a b H M L x hx y f e;obtain⟨g,g1,g2⟩:=r a _ (Y H);obtain⟨u,g3,g4⟩:=r b _ (Y M);rcases((led_apart c g1 g2).2 x).1 hx with hx|⟨j,hx⟩
   ·rcases((led_apart c g3 g4).2 y).1 f with f|⟨D,f⟩
    ·have:=c.2.4 a g b u x y g1 g3 hx f e;omega
    ·exact c.2.5 a g b u D x y g1 g3 hx f e
   ·rcases((led_apart c g3 g4).2 y).1 f with f|⟨D,f⟩
    ·exact c.2.5 b u a g j y x g3 g1 f hx e.symm
    ·have:=(VE c.allOk g1 g3 hx.2.1 f.2.1 e).1;omega
 refine(List.perm_ext_iff_of_nodup (Q.imp (λq e=>q (by rw[e]))) (c.2.2.imp (λq e=>q (by rw[e])))).2 (λm=>?_);rw[c.2.3,List.mem_flatten];constructor
 ·rintro⟨x,hx,P⟩;obtain⟨k,hk⟩:=bB hx;obtain⟨h,d,w⟩:=r k x hk;rcases((led_apart c d w).2 m).1 P with q|⟨j,q⟩
  ·exact aq ⟨k,h,d,q⟩
  ·exact aC ⟨k,h,j,d,q⟩
 ·have o:∀(k:Nat) (h:HW),s.1[k]?=F h->∃x,z[k]?=F x:=λk h hk=>by have:=c.lt hk;rw[<-A]at this;exact⟨_,Y this⟩
  rintro(⟨k,h,d,q⟩|⟨k,h,j,d,q⟩)
  ·obtain⟨x,hx⟩:=o k h d;exact⟨x,bd hx,((led_apart c d (v k h x d hx)).2 m).2 (aq q)⟩
  ·obtain⟨x,hx⟩:=o k h d;exact⟨x,bd hx,((led_apart c d (v k h x d hx)).2 m).2 (aC ⟨j,q⟩)⟩
theorem JX(d:WI nms n t s T){Z l:List Mg}(g:LedN s n l)(j:Df Z)(c:Z.Perm l):Z.Perm T/\Z.Pairwise λa b=>a.1<b.1:=by have c:=c.trans (Vs d g);refine⟨c,?_⟩;have f:Z.Pairwise λa b=>a.1≠b.1:=(c.pairwise_iff (λ{_ _} q e=>q e.symm)).2 d.2.2;refine(j.and f).imp (λ{a b} q=>?_);have m:=q.1;have o:=q.2;omega
end
end
end Go.Proofs.YtkkallehdijiaaaGreatDoor
