import Derived.Test.YtkabgmdjfiidhaaGreatDoorZHrHouse
import Derived.Test.YtkabgmdjfiidhaaGreatDoorZHpRange
set_option linter.all false
set_option maxHeartbeats 0
set_option maxRecDepth 99999
open Array renaming getElem?_setIfInBounds->F,getElem?_eq_some_iff->Y,size_setIfInBounds->aP,toList_inj->aR
open Go.Value renaming int->Z,string->E,pointer->C,slice->aa,ownBlock->av,tuple->aI,bool->aM,map->bU,oneCell'->bW,agg->cj,iface->ck
open Option renaming none->I,some->G,toList_some->aL
open Go.IntKind renaming i64->J
open Go.Proofs.Tryz renaming prog->T,underlying22->aQ,ntmps44->aW,func44->aZ,ntmps15->bg,ntmps62->bh,func15->bl,func62->bm,ntmps60->bu,func60->bB,ntmps132->bG,func132->bJ,ntmps47->bK,ntmps59->bL,underlying59->bM,func47->bP,func59->bQ,underlying9->bR,ntmps18->bX,ntmps56->bY,ntmps65->bZ,ntmps73->ca,sort155->cb,func18->cc,func56->cd,func65->ce,func73->cf
open Go.Ending renaming returned->ab
open Go.RowKit.Hid renaming out->ac
open Go.RowKit.Below renaming refl->ad,heap_alloc->ba,drew->br,alloc->cg
open Go.RowKit renaming Below->ae
open List renaming length_append->af,getElem?_eq_getElem->ag,take_of_length_le->aj,getElem?_eq_some_iff->al,length_take->aD,take_add_one->aF,append_nil->aN,mem_singleton->aV,length_eq_zero_iff->aX,mem_of_getElem?->bd,eq_nil_of_length_eq_zero->bf,append_assoc->bq,length_cons->bt,length_map->bv,map_append->bx,mem_append->bz,length_mergeSort->bC,take_zero->bD,mem_cons_of_mem->bF,mergeSort_perm->bH,mem_cons_self->bI,getElem?_map->bO
open Nat renaming le_refl->ah,le_trans->ay,lt_of_lt_of_le->az,zero_le->aH,mul_le_mul->bE,le_succ->ch
open Or renaming inl->ai,inr->ax
open Go.Proofs.YtkabgmdjfiidhaaGreatDoor.Only renaming of_below->ak,refl->aJ,of_grown->bn,of_turned->bV
open Bool renaming false->am,true->ao,or_eq_true->bS
open Option.some renaming inj->an
open Go renaming World->aq,Value->au,Calls->aC,maxLen->aU,rounds_succ->bb,wpList_append_own_at->bc,wpList_append_own->bN,DataW->ci
open Go.World renaming ownsRow_nil->aw
open Int renaming toNat_natCast->aA
open Go.Obj renaming cells->aB
open Sum renaming inl->aE,inr->aG
open Go.Proofs renaming intOf->aK,encStr->bj
open Go.Proofs.YtkabgmdjfiidhaaGreatDoor.Pl renaming kept->aO,free->bp
open Decidable renaming decide->aS
open Go.ByteArray renaming toList_eq->aT
open ByteArray renaming ext->aY
open Go.Lit renaming string->bk
open Go.Maps renaming size->bA,has->bT
open Go.Proofs.Tryz
namespace Go.Proofs.YtkabgmdjfiidhaaGreatDoor
section
open Go.RowKit Go.Maps
section
variable{L:Nat->Prop}{R M:Nat}{w w':aq}{P P1:Nat->Prop}{cs cs':Array au}{g:AN->Option Nat}{st st':AV}{nv:au}{uv dv:Nat->au}{nl:List Nm}{did:Nat->List Dd}{db:Nat->List Int}
structure RO(L:Nat->Prop)(R M:Nat)(cs:Array au)(P P1:Nat->Prop)(g:AN->Option Nat)(nv:au)(uv dv:Nat->au)(st:AV)(w:aq):Prop where
 s:Rs w P1 R M cs g st.Q st.N w
 u:RU w R cs st.3 st.4 st.8 g nv uv dv
 ap:∀k,Ck nv uv dv k->¬P1 k
 sub:∀x,P1 x->P x
 um:∀x,Ck nv uv dv x->P x
 lt:∀x,P x->x<w.1.size
 nl:∀x,L x->¬P x
 ll:∀x,L x->x<w.1.size
 sc:RSc cs st
 wf:RWf g st
theorem Rx.open(h:Rx L R st w):∃M cs P P1 g nv uv dv,RO L R M cs P P1 g nv uv dv st w:=by obtain⟨M,cs,P,g,nv,uv,dv,e,a,f,i,j,k,l,m⟩:=h;obtain⟨P1,g1,b,c,n,d⟩:=e.freshT;exact⟨M,cs,P,P1,g,nv,uv,dv,d w (ad _ _),a,a.apart c,λx hx=>(g1.2 x hx).elim (λy=>y) (λy=>by have:=b x hx;omega),f,i,j,k,l,m⟩
theorem RO.shut(h:RO L R M cs P P1 g nv uv dv st w):Rx L R st w:=⟨M,cs,P,g,nv,uv,dv,h.s.more h.4,h.u,h.5,h.6,h.7,h.8,h.9,h.wf⟩
theorem RO.fin{g':AN->Option Nat}{nv':au}{uv' dv':Nat->au}(h:RO L R M cs P P1 g nv uv dv st w)(b:Rs w P R M cs' g' st'.Q st'.N w')(a:RU w' R cs' st'.3 st'.4 st'.8 g' nv' uv' dv')(c:∀x,Ck nv' uv' dv' x->P x\/w.1.size<=x)(sc:RSc cs' st')(wf:RWf g' st'):Rx L R st' w'/\Only w w' (λx=>¬L x):=PR b a c h.7 h.8 sc wf
theorem RO.refN(h:RO L R M cs P P1 g nv uv dv st w):RefN 1 68 cs w R nv st.3:=Rx.refN h.s.here h.s.size h.u
theorem RO.below(h:RO L R M cs P P1 g nv uv dv st w)(a:ae w.1.size w w'):RO L R M cs P P1 g nv uv dv st w':=by obtain⟨n,e,b,c,d⟩:=h.s;exact⟨⟨n,e,b.below a,⟨aJ _ _,λx hx=>(c.2 x hx).elim ai (λy=>by have:=b.lt hx;omega)⟩,d⟩,h.u.kept (P:=λ_=>False) (ak a) (λ_ _ x=>x),h.3,h.4,h.5,λx hx=>az (h.6 x hx) a.4,h.7,λx hx=>az (h.8 x hx) a.4,h.9,h.wf⟩
theorem RU.neR(h:RU w R cs nl did db g nv uv dv)(a:Blk w R cs 68):∀k,Ck nv uv dv k->¬k=R:=λk d e=>by obtain⟨c,t,b,f⟩:=h.cells d;unfold Blk at a;rw[<-e,b]at a;injection a with a;injection a with _ a;rcases f with rfl|rfl|rfl<;>cases a
end
theorem EG(R:Nat)(id k:Int)(w:aq)(c0:w.cell? ⟨R,0,I⟩=G (Z J id)):aC T 47 #[C (G ⟨R,0,I⟩),Z J k] w λe w'=>e=ab (aM (A0 id k))/\w=w':=by
 have a:=Aa (Dt k 0 3 w);have f:A0 id k=(B2 k 0 3&&!decide (k=id)):=by
  unfold A0 B2;have:aS (k<4)=aS (k<=3):=by rw[decide_eq_decide];omega
  rw[this,Bool.and_assoc]
 rw[f];obtain⟨b,d⟩:∃b,Hid (B2 k 0 3=b):=⟨_,rfl⟩;rw[d.o]at a⊢;clear f d;cases b
 ·go_enter bP,bK;go_wp2_with(go_at_call 120;go_must(refine a.o.mono ?_);rintro e w1 ⟨rfl,rfl⟩;refine ac ?_);refine Aa ?_;go_wp2;go_ret;exact⟨rfl,rfl⟩
 ·by_cases c:k=id
  ·subst c;go_enter bP,bK;go_wp2_with(go_at_call 120;go_must(refine a.o.mono ?_);rintro e w1 ⟨rfl,rfl⟩;refine ac ?_);refine Aa ?_;go_wp2;go_ret;exact⟨oS,rfl⟩
  ·have e:(k==id)=am:=by simpa using c
   have h:=Aa c;clear c;go_enter bP,bK;go_wp2_with(go_at_call 120;go_must(refine a.o.mono ?_);rintro e w1 ⟨rfl,rfl⟩;refine ac ?_);refine Aa ?_;go_wp2;go_ret;exact⟨by simp[h.o],rfl⟩
def Dv(nl:List Nm)(s:ByteArray):Bool:=aS (s=Al)||Cs nl s
theorem PP{L:Nat->Prop}{R M:Nat}{cs:Array au}{P P1:Nat->Prop}{g:AN->Option Nat}{nv:au}{uv dv:Nat->au}{st:AV}(s:ByteArray)(w:aq)(h:RO L R M cs P P1 g nv uv dv st w)(n:st.3.length<=1000)(p:s.size<=aU):aC T 132 #[C (G ⟨R,0,I⟩),E s] w λe w'=>e=ab (if Dv st.3 s=ao then Cd (g (aE s))else C I)/\ae w.1.size w w':=by
 have j:=Aa (EF R nv st.3 s w h.refN n);have b:Hid (∀W,ae w.1.size w W->(Instr.lookup 59 (bU (G M)) (E s) am).run T W=.ok (Cd (g (aE s))) W/\W.cell? ⟨R,2,I⟩=G (bU (G M))):=Aa (λW k=>⟨(h.s.below k).look s p,((h.s.below k).cell 2).trans h.s.m⟩);have d:Hid (Dv st.3 s=(aS (s=Al)||Cs st.3 s)):=Aa rfl;generalize Dv st.3 s=ob at d⊢;obtain⟨l,i⟩:∃q,Hid (Cs st.3 s=q):=⟨_,rfl⟩;rw[i.o]at j d;generalize Cd (g (aE s))=qv at b⊢;clear h i;by_cases f:s=Al
 ·have e:s.toList=[100,101,97,100]:=by rw[f,aT];rfl
  have c:ob=ao:=by rw[d.o];simp[f]
  subst c;obtain⟨r,t⟩:=b.o w (ad _ _);clear f d;go_enter bJ,bG;go_wp2;go_ret;exact⟨oS,ad _ _⟩
 ·have e:¬s.toList=[100,101,97,100]:=λe=>f (aY (aR.1 (by rw[aT]at e;exact e)));have u:(s.toList==[100,101,97,100])=am:=by simpa using e
  have c:ob=l:=by rw[d.o];simp[f]
  subst c;clear f d e;cases ob
  ·go_enter bJ,bG;go_wp2_with(go_at_call 130;go_must(refine j.o.mono ?_);rintro e w1 ⟨rfl,a⟩;refine ac ?_);refine Aa ?_;go_wp2;go_ret;exact⟨oS,a⟩
  ·go_enter bJ,bG;go_wp2_with(go_at_call 130;go_must(refine j.o.mono ?_);rintro e w1 ⟨rfl,a⟩;refine ac ?_);refine Aa ?_;obtain⟨r,t⟩:=b.o w1 a;go_wp2;go_ret;exact⟨oS,a⟩
theorem Jh{ls:List Nm}{s:ByteArray}{x:Nm}(h:AK ls s=G x):x∈ls/\x.1=s:=by unfold AK at h;have a:=List.find?_some h;exact⟨List.mem_of_find?_eq_some h,by simpa using a⟩
theorem RWf.opens{g:AN->Option Nat}{st:AV}(h:RWf g st){s:ByteArray}(a:Dv st.3 s=ao):∃b,g (aE s)=G b:=by
 unfold Dv at a;rw[bS,decide_eq_true_eq]at a;rcases a with rfl|a
 ·exact h.1
 ·unfold Cs at a;cases hx:AK st.3 s with
  |none=>rw[hx]at a;simp at a
  |some x=>rw[hx]at a;obtain⟨d,e⟩:=Jh hx;have c:=h.2 x d (by simpa[Sz]using a);rw[e]at c;exact c
theorem Ux(L:Nat->Prop)(R:Nat)(st:AV)(s:ByteArray)(w:aq)(h:Rx L R st w)(v:st.3.length<=1000)(x:s.size<=aU)(t:∀l,(st.Q l).length<=1000):aC T 65 #[C (G ⟨R,0,I⟩),E s] w λe w'=>(Dv st.3 s=am/\e=ab (aI #[aa I 0 0,Z J 7])/\ae w.1.size w w')\/(Dv st.3 s=ao/\∃c,e=ab (aI #[c,Z J 0])/\Hid (w'.ownsRow w.1.size 84 5 c (Af bp (Aw (st.Q (aE s)))).length (AS (Af bp (Aw (st.Q (aE s)))))/\ae w.1.size w w')):=by
 obtain⟨M,cs,P,P1,g,nv,uv,dv,h⟩:=h.open;have a:=Aa (PP s w h v x);have r:Hid (∀b W,g (aE s)=G b->ae w.1.size w W->aC T 48 #[C (G ⟨b,0,I⟩)] W λe w'=>∃c,e=ab c/\Hid (w'.ownsRow w.1.size 84 5 c (Af bp (Aw (st.Q (aE s)))).length (AS (Af bp (Aw (st.Q (aE s)))))/\ae w.1.size w w')):=Aa (λb W u f=>(In (aE s) b W (h.s.below f) u (t _)).mono (λe w' q=>by obtain⟨⟨c,z,A⟩,B⟩:=q;exact⟨c,z,Aa ⟨AW A f.4,Ab f f.4 B⟩⟩));have m:=Aa (λp=>h.wf.opens (s:=s) p);obtain⟨y,i⟩:∃q,Hid (Dv st.3 s=q):=⟨_,rfl⟩;rw[i.o]at a m⊢;clear h t i;cases y
 ·go_enter ce,bZ;go_wp2_with(go_at_call 132;go_must(refine a.o.mono ?_);rintro e w1 ⟨rfl,d⟩;refine ac ?_);refine Aa ?_;go_wp2;go_ret2;exact ai ⟨by trivial,rfl,d⟩
 ·obtain⟨b,n⟩:=m.o rfl;have j:=Aa (λW f=>r.o b W n f);rw[n]at a;change Hid (aC T 132 #[C (G ⟨R,0,I⟩),E s] w λe w'=>e=ab (C (G ⟨b,0,I⟩))/\ae w.1.size w w')at a;clear m r n;go_enter ce,bZ;go_wp2_with(go_at_call 132;go_must(refine a.o.mono ?_);rintro e w1 ⟨rfl,d⟩;refine ac ?_);refine Aa ?_;have k:=Aa (j.o w1 d);go_wp2_with(go_at_call 48;go_must(refine k.o.mono ?_);rintro e w2 ⟨c,rfl,p⟩;refine ac ?_);refine Aa ?_;go_wp2;go_ret2;exact ax ⟨by trivial,c,rfl,p⟩
theorem Uy(L:Nat->Prop)(R:Nat)(st:AV)(k:Int)(w:aq)(h:Rx L R st w)(p:∀l,(st.Q l).length<=1000):aC T 73 #[C (G ⟨R,0,I⟩),Z J k] w λe w'=>(A0 st.5 k=am/\e=ab (aI #[aa I 0 0,Z J 2])/\w=w')\/(A0 st.5 k=ao/\∃c,e=ab (aI #[c,Z J 0])/\Hid (w'.ownsRow w.1.size 84 5 c (Af aO (Aw (st.Q (aG k.toNat)))).length (AS (Af aO (Aw (st.Q (aG k.toNat)))))/\ae w.1.size w w')):=by
 obtain⟨M,cs,P,P1,g,nv,uv,dv,h⟩:=h.open;have c0:=(h.s.cell 0).trans h.9.1;have d:=Aa (EG R st.5 k w c0);obtain⟨b,f⟩:∃b,Hid (A0 st.5 k=b):=⟨_,rfl⟩;rw[f.o]at d⊢;cases b
 ·clear h c0;go_enter cf,ca;go_wp2_with(go_at_call 47;go_must(refine d.o.mono ?_);rintro e w1 ⟨rfl,rfl⟩;refine ac ?_);refine Aa ?_;go_wp2;go_ret2;exact ai ⟨by trivial,rfl,rfl⟩
 ·obtain⟨⟨r,t⟩,-⟩:=Bh.1 f.o;obtain⟨q,hq,i⟩:=h.s.ways k.toNat O;have c3:=(h.s.cell (3+k.toNat)).trans i;have m:=Aa (EH (aG k.toNat) q w h.s hq (p _));clear h c0 hq i;go_enter cf,ca;go_wp2_with(go_at_call 47;go_must(refine d.o.mono ?_);rintro e w1 ⟨rfl,rfl⟩;refine ac ?_);refine Aa ?_;go_wp2_with(go_at_call 49;go_must(refine m.o.mono ?_);rintro e w3 ⟨⟨c,rfl,j⟩,a⟩;refine ac ?_);refine Aa ?_;have n:=Aa (And.intro j a);clear j a;go_wp2;go_ret2;exact ax ⟨by trivial,c,rfl,n⟩
theorem XO(L:Nat->Prop)(R:Nat)(st:AV)(n:Int)(w:aq)(h:Rx L R st w)(p:-9223372036854775808<=n/\n<=9223372036854775807):aC T 18 #[C (G ⟨R,0,I⟩),Z J n] w λe w'=>e=ab (aI #[])/\Rx L R {st with off:=aS (0<=n),left:=n} w'/\Only w w' (λx=>¬L x):=by
 obtain⟨M,cs,P,P1,g,nv,uv,dv,h⟩:=h.open;obtain⟨v,l,-⟩:=h.9.9;have r:=(h.s.cell 28).trans h.9.8;have t:=(h.s.cell 29).trans l;have f28:=h.s.free 28;have f29:=h.s.free 29;have sz:=h.s.size;have j:=h.u.neR h.s.here;have f:=h.s.set 28 (aM (aS (0<=n))) O;have q:=f.set 29 (Z J n) O;have b:(w.setCell ⟨R,28,I⟩ (aM (aS (0<=n)))).cell? ⟨R,29,I⟩=G (Z J v):=by rw[f.cell 29,F,if_neg O];exact l
 have c:=f.free 29;have a:∀k,k≠28->k≠29->((cs.setIfInBounds 28 (aM (aS (0<=n)))).setIfInBounds 29 (Z J n))[k]?=cs[k]?:=λk y z=>by rw[F,if_neg O,F,if_neg O]
 have d:=Aa (h.fin (st':={st with off:=aS (0<=n),left:=n}) (q.more h.4) (((h.u.kept (Only.set w R 28 _) j).kept (Only.set _ R 29 _) j).same (λk y=>a k O O)) (λx hx=>ai (h.5 x hx)) ⟨(a 0 O O).trans h.9.1,(a 12 O O).trans h.9.2,(a 13 O O).trans h.9.3,λi hi=>(a _ O O).trans (h.9.4 i hi),λi hi=>(a _ O O).trans (h.9.5 i hi),(a 26 O O).trans h.9.6,(a 27 O O).trans h.9.7,by rw[F,if_neg O,F,if_pos rfl,if_pos O],n,by rw[F,if_pos rfl,if_pos (by rw[aP];omega)],λ_=>rfl,p.1,p.2⟩ ⟨h.wf.1,h.wf.2,h.wf.3,h.wf.4⟩);clear h f q l a j;by_cases m:0<=n
 ·have e:aS (0<=n)=ao:=by simpa using m
  rw[e]at d b c⊢;go_enter cc,bX;go_wp2;go_end0;exact⟨rfl,d.o⟩
 ·have e:aS (0<=n)=am:=by simpa using m
  rw[e]at d b c⊢;go_enter cc,bX;go_wp2;go_end0;exact⟨rfl,d.o⟩
theorem RU.nilU{R:Nat}{w:aq}{cs cs':Array au}{g:AN->Option Nat}{nv:au}{uv dv:Nat->au}{nl:List Nm}{did:Nat->List Dd}{db:Nat->List Int}(h:RU w R cs nl did db g nv uv dv){u:Nat}(j:u<5)(c:cs'[7+u]?=G (aa I 0 0))(e:∀k,k≠7+u->cs'[k]?=cs[k]?):RU w R cs' nl (Ae did u []) db g nv (Ae uv u (aa I 0 0)) dv:=by
 refine⟨(e 1 O).trans h.1,h.2,λv a=>?_,λv a=>?_,λv x c a hx d b=>?_,λi hi=>(e _ O).trans (h.6 i hi),h.7,h.8⟩
 ·by_cases q:v=u
  ·subst q;rw[Ad];exact c
  ·rw[Ac _ _ q];exact(e _ O).trans (h.3 v a)
 ·by_cases q:v=u
  ·subst q;rw[Ad,Ad];exact aw _ _ _ _
  ·rw[Ac _ _ q,Ac _ _ q];exact h.4 v a
 ·by_cases q:v=u
  ·subst q;rw[Ad]at b;simp[av]at b
  ·rw[Ac _ _ q]at b;by_cases f:x=u
   ·subst f;rw[Ad];simp[av]
   ·rw[Ac _ _ f];exact h.5 v x c a hx d b
def A8(st:AV)(u:Nat):AV:={st with Q:=Gu (Az u ao) st.Q,did:=Ae st.4 u []}
theorem Nj(L:Nat->Prop)(R:Nat)(st:AV)(u:Nat)(w:aq)(h:Rx L R st w)(c:u<5)(m:∀l,(st.Q l).length<=1000):aC T 54 #[C (G ⟨R,0,I⟩),Z J (u:Int)] w λe w'=>e=ab (aI #[])/\Rx L R (A8 st u) w'/\Only w w' (λx=>¬L x):=by
 obtain⟨M,cs,P,P1,g,nv,uv,dv,h⟩:=h.open;have sz:=h.s.size;refine(Fd u (uv u) w h.s c m (λi hi=>h.s.nil _ (h.wf.3 i hi)) (h.u.3 u c)).mono ?_;rintro e w' ⟨rfl,j⟩;have a:∀k,k≠7+u->(cs.setIfInBounds (7+u) (aa I 0 0))[k]?=cs[k]?:=λk o=>by rw[F,if_neg O]
 refine⟨rfl,h.fin (st':=A8 st u) (j.more h.4) ((h.u.kept j.ev h.3).nilU c (by rw[F,if_pos rfl,if_pos O]) a) (λx hx=>ai (h.5 x ?_)) ⟨(a 0 O).trans h.9.1,(a 12 O).trans h.9.2,(a 13 O).trans h.9.3,λi hi=>(a _ O).trans (h.9.4 i hi),λi hi=>(a _ O).trans (h.9.5 i hi),(a 26 O).trans h.9.6,(a 27 O).trans h.9.7,(a 28 O).trans h.9.8,?_⟩ ⟨h.wf.1,h.wf.2,h.wf.3,λv f d b=>?_⟩⟩
 ·rcases hx with hx|⟨v,f,hx⟩|hx
  ·exact ai hx
  ·by_cases q:v=u
   ·subst q;rw[Ad]at hx;simp[av]at hx
   ·rw[Ac _ _ q]at hx;exact ax (ai ⟨v,f,hx⟩)
  ·exact ax (ax hx)
 ·obtain⟨v,n,v2⟩:=h.9.9;exact⟨v,(a 29 O).trans n,v2⟩
 ·by_cases q:v=u
  ·subst q;have:(Ae st.4 v []) v=[]:=Ad _ _ _;rw[show(A8 st v).4 v=[]from this]at b;cases b
  ·have:(Ae st.4 u []) v=st.4 v:=Ac _ _ q;rw[show(A8 st u).4 v=st.4 v from this]at b;exact h.wf.4 v f d b
def PL(st:AV)(u:Int):Int:=if B2 u 0 4=ao then(if st.4 u.toNat=[]then 8 else if st.12=ao then 6 else 0)else 2
theorem OM(L:Nat->Prop)(R:Nat)(st:AV)(u:Int)(w:aq)(h:Rx L R st w)(y:∀l,(st.Q l).length<=1000):aC T 60 #[C (G ⟨R,0,I⟩),Z J u] w λe w'=>e=ab (Z J (PL st u))/\Rx L R (if PL st u=0 then A8 st u.toNat else st) w'/\Only w w' (λx=>¬L x):=by
 have j:=Aa (Dt u 0 4 w);have c:Hid (PL st u=if B2 u 0 4=ao then(if st.4 u.toNat=[]then 8 else if st.12=ao then 6 else 0)else 2):=Aa rfl;have m:=Aa h;generalize PL st u=re at c⊢;obtain⟨b,p⟩:∃b,Hid (B2 u 0 4=b):=⟨_,rfl⟩;rw[p.o]at j c;cases b
 ·have f:re=2:=by rw[c.o,if_neg oD]
  subst f;clear h y;go_enter bB,bu;go_wp2_with(go_at_call 120;go_must(refine j.o.mono ?_);rintro e w1 ⟨rfl,rfl⟩;refine ac ?_);refine Aa ?_;go_wp2;go_ret;exact⟨rfl,m.o,aJ _ _⟩
 ·obtain⟨n,U⟩:∃n:Nat,u=(n:Int):=⟨u.toNat,by have:=p.o;simp[B2]at this;omega⟩;subst U;have i:n<5:=by have:=p.o;simp[B2]at this;omega
  have W:(n:Int)<5:=O;have V:(0:Int)<=(n:Int):=O;have N:=Aa (Nj L R st n w h i y);obtain⟨M,cs,P,P1,g,nv,uv,dv,h⟩:=h.open;obtain⟨a,k,D⟩:=Ah (h.u.4 n i);have A:=(h.s.cell (7+n)).trans (h.u.3 n i);rw[D]at A;have c27:=(h.s.cell 27).trans h.9.7;rw[aA]at c⊢;obtain⟨z,t⟩:∃z,Hid ((st.4 n).length=z):=⟨_,rfl⟩;rw[t.o]at A;obtain⟨S,r⟩:∃q,Hid (st.12=q):=⟨_,rfl⟩;rw[r.o]at c27 c;clear h D y;by_cases v:z=0
  ·have d:st.4 n=[]:=aX.1 (by rw[t.o];exact v);have f:re=8:=by rw[c.o,if_pos rfl,if_pos d]
   subst f;subst v;clear d;go_enter bB,bu;go_wp2_with(go_at_call 120;go_must(refine j.o.mono ?_);rintro e w1 ⟨rfl,rfl⟩;refine ac ?_);refine Aa ?_;go_wp2;go_ret;exact⟨rfl,m.o,aJ _ _⟩
  ·have d:¬st.4 n=[]:=λe=>v (by rw[<-t.o,e];rfl);have X:((z:Int)==0)=am:=by rw[beq_eq_false_iff_ne];omega
   cases S
   ·have f:re=0:=by rw[c.o,if_pos rfl,if_neg d,if_neg oD]
    subst f;clear d;go_enter bB,bu;go_wp2_with(go_at_call 120;go_must(refine j.o.mono ?_);rintro e w1 ⟨rfl,rfl⟩;refine ac ?_);refine Aa ?_;go_wp2_with(go_at_call 54;go_must(refine N.o.mono ?_);rintro e w2 ⟨rfl,B⟩;refine ac ?_);refine Aa ?_;have H:=Aa B;clear B;go_wp2;go_ret;exact⟨rfl,H.o⟩
   ·have f:re=6:=by rw[c.o,if_pos rfl,if_neg d,if_pos rfl]
    subst f;clear d;go_enter bB,bu;go_wp2_with(go_at_call 120;go_must(refine j.o.mono ?_);rintro e w1 ⟨rfl,rfl⟩;refine ac ?_);refine Aa ?_;go_wp2;go_ret;exact⟨rfl,m.o,aJ _ _⟩
theorem Only.thenL{w W w':aq}{L:Nat->Prop}(a:Only w W (λx=>¬L x))(b:Only W w' (λx=>¬L x)):Only w w' (λx=>¬L x):=a.trans (b.mono (λ_ _ h=>ai h))
def ES(st:AV):AV:=A8 (A8 (A8 (A8 (A8 st 0) 1) 2) 3) 4
def IL(st:AV):AV:={ES st with down:=am,cnt:=st.7}
theorem BZ{st:AV}{u n:Nat}(h:∀l,(st.Q l).length<=n):∀l,((A8 st u).Q l).length<=n:=λl=>ay (EY u ao _) (h l)
theorem ON(L:Nat->Prop)(R:Nat)(st:AV)(w:aq)(h:Rx L R st w):(w.cell? ⟨R,13,I⟩=G (Z J st.7)/\w.cell? ⟨R,27,I⟩=G (aM st.12)/\w.cell? ⟨R,12,I⟩=G (Z J st.6)/\w.frozen? ⟨R,27,I⟩=am/\(w.setCell ⟨R,27,I⟩ (aM am)).cell? ⟨R,12,I⟩=G (Z J st.6)/\(w.setCell ⟨R,27,I⟩ (aM am)).frozen? ⟨R,12,I⟩=am)/\Rx L R {st with down:=am,cnt:=st.7} ((w.setCell ⟨R,27,I⟩ (aM am)).setCell ⟨R,12,I⟩ (Z J st.7))/\Only w ((w.setCell ⟨R,27,I⟩ (aM am)).setCell ⟨R,12,I⟩ (Z J st.7)) (λx=>¬L x):=by
 obtain⟨M,c,P,P1,g,nv,uv,dv,h⟩:=h.open;have sz:=h.s.size;have d:=h.u.neR h.s.here;have b:=h.s.set 27 (aM am) O;have j:=b.set 12 (Z J st.7) O;have a:∀k,k≠27->k≠12->((c.setIfInBounds 27 (aM am)).setIfInBounds 12 (Z J st.7))[k]?=c[k]?:=λk e f=>by rw[F,if_neg O,F,if_neg O]
 obtain⟨v,l,v2⟩:=h.9.9;exact⟨⟨(h.s.cell 13).trans h.9.3,(h.s.cell 27).trans h.9.7,(h.s.cell 12).trans h.9.2,h.s.free 27,by rw[b.cell 12,F,if_neg O];exact h.9.2,b.free 12⟩,h.fin (st':={st with down:=am,cnt:=st.7}) (j.more h.4) (((h.u.kept (Only.set w R 27 _) d).kept (Only.set _ R 12 _) d).same (λk e=>a k O O)) (λx hx=>ai (h.5 x hx)) ⟨(a 0 O O).trans h.9.1,by rw[F,if_pos rfl,if_pos (by rw[aP];omega)],(a 13 O O).trans h.9.3,λi hi=>(a _ O O).trans (h.9.4 i hi),λi hi=>(a _ O O).trans (h.9.5 i hi),(a 26 O O).trans h.9.6,by rw[F,if_neg O,F,if_pos rfl,if_pos O],(a 28 O O).trans h.9.8,v,(a 29 O O).trans l,v2⟩ ⟨h.wf.1,h.wf.2,h.wf.3,h.wf.4⟩⟩
theorem Wn(L:Nat->Prop)(R:Nat)(st:AV)(w:aq)(h:Rx L R st w)(k:∀l,(st.Q l).length<=1000):aC T 20 #[C (G ⟨R,0,I⟩)] w λe w'=>e=ab (aI #[])/\Rx L R (IL st) w'/\Only w w' (λx=>¬L x):=by have g:Hid (∀(u:Nat) (s:AV) W,u<5->Rx L R s W->(∀l,(s.Q l).length<=1000)->aC T 54 #[C (G ⟨R,0,I⟩),Z J (u:Int)] W λe w'=>e=ab (aI #[])/\Rx L R (A8 s u) w'/\Only W w' (λx=>¬L x)):=Aa (λu s W D B hq=>Nj L R s u W B D hq);have n:Hid (aC T 54 #[C (G ⟨R,0,I⟩),Z J 0] w λe w'=>e=ab (aI #[])/\Rx L R (A8 st 0) w'/\Only w w' (λx=>¬L x)):=Aa (g.o 0 st w O h k);have i:=Aa k;clear h k;go_enter func20,ntmps20;go_wp2;refine wp_loop_rounds 6 ?_;rw[bb];go_wp2_with(go_at_call 54;go_must(refine n.o.mono ?_);rintro e w1 ⟨rfl,a⟩;refine ac ?_);refine Aa ?_;have p:Hid (aC T 54 #[C (G ⟨R,0,I⟩),Z J 1] w1 λe w'=>e=ab (aI #[])/\Rx L R (A8 (A8 st 0) 1) w'/\Only w w' (λx=>¬L x)):=Aa ((g.o 1 _ w1 O a.1 (BZ i.o)).mono (λe w' h=>⟨h.1,h.2.1,a.2.thenL h.2.2⟩));clear a n;go_wp2;rw[bb];go_wp2_with(go_at_call 54;go_must(refine p.o.mono ?_);rintro e w2 ⟨rfl,b⟩;refine ac ?_);refine Aa ?_;have q:Hid (aC T 54 #[C (G ⟨R,0,I⟩),Z J 2] w2 λe w'=>e=ab (aI #[])/\Rx L R (A8 (A8 (A8 st 0) 1) 2) w'/\Only w w' (λx=>¬L x)):=Aa ((g.o 2 _ w2 O b.1 (BZ (BZ i.o))).mono (λe w' h=>⟨h.1,h.2.1,b.2.thenL h.2.2⟩));clear b p;go_wp2;rw[bb];go_wp2_with(go_at_call 54;go_must(refine q.o.mono ?_);rintro e w3 ⟨rfl,c⟩;refine ac ?_);refine Aa ?_;have r:Hid (aC T 54 #[C (G ⟨R,0,I⟩),Z J 3] w3 λe w'=>e=ab (aI #[])/\Rx L R (A8 (A8 (A8 (A8 st 0) 1) 2) 3) w'/\Only w w' (λx=>¬L x)):=Aa ((g.o 3 _ w3 O c.1 (BZ (BZ (BZ i.o)))).mono (λe w' h=>⟨h.1,h.2.1,c.2.thenL h.2.2⟩));clear c q;go_wp2;rw[bb];go_wp2_with(go_at_call 54;go_must(refine r.o.mono ?_);rintro e y ⟨rfl,d⟩;refine ac ?_);refine Aa ?_;have t:Hid (aC T 54 #[C (G ⟨R,0,I⟩),Z J 4] y λe w'=>e=ab (aI #[])/\Rx L R (ES st) w'/\Only w w' (λx=>¬L x)):=Aa ((g.o 4 _ y O d.1 (BZ (BZ (BZ (BZ i.o))))).mono (λe w' h=>⟨h.1,h.2.1,d.2.thenL h.2.2⟩));clear d r;go_wp2;rw[bb];go_wp2_with(go_at_call 54;go_must(refine t.o.mono ?_);rintro e w5 ⟨rfl,f⟩;refine ac ?_);refine Aa ?_;obtain⟨⟨c13,c27,c12,f27,z,A⟩,hx,v⟩:=ON L R (ES st) w5 f.1;have m:=Aa (And.intro hx (f.2.thenL v));have j:(ES st).7=st.7:=rfl;rw[j]at m c13;clear f hx v t;go_wp2;rw[bb];go_wp2;go_end0;exact⟨rfl,m.o⟩
section
variable{w w' w0:aq}{P0:Nat->Prop}{R M n N:Nat}{cs cs':Array au}{g:AN->Option Nat}{vs:AN->au}{Q:AN->List Pl}
theorem QM.put59{w:aq}{B n:Nat}{f:ByteArray->Option Nat}(h:QM w B n f)(p:n<aU)(s:ByteArray)(q:Nat)(r:s.size<=aU):∃w',(Instr.mapUpdate 59 (bU (G B)) (E s) (C (G ⟨q,0,I⟩))).run T w=.ok () w'/\QM w' B (n+1) (λt=>if t=s then G q else f t)/\w.grownBy w' (G B):=by
 obtain⟨D,d,j,k⟩:=h;obtain⟨w',b,hown,m⟩:=d.update Ec bM p (WideMaps.keyOf_string_mk bR r) (Dm (G q));refine⟨w',b,⟨_,hown,λt=>?_,λt i=>?_⟩,m⟩
 rotate_left
 ·by_cases e:t=s
  ·simp[e]
  ·have a:(bk t.1.1)≠bk s.1.1:=λc=>e (aY (aR.1 (by injection c)));rw[has_put_other a]at i;simpa[e]using k t i
 by_cases e:t=s
 ·subst e;have l:IsMap D:=d.isMap;have o:WideAt.IsKeyLit (bk t.1.1):=trivial;rw[atKey_put_same l o];simp
 ·have a:(bk t.1.1)≠bk s.1.1:=λc=>e (aY (aR.1 (by injection c)));rw[atKey_put_other a,j t];simp[e]
theorem RS.made(h:RS w R M n cs g vs Q){s:ByteArray}(D:g (aE s)=I)(z:QM w' M (n+1) (λt=>if t=s then G w.1.size else g (aE t)))(A:Blk w' w.1.size #[aa I 0 0] 126)(B:w.grownBy w' (G M)):RS w' R M (n+1) cs (As g (aE s) (G w.1.size)) (As vs (aE s) (aa I 0 0)) Q/\Ev w w' (EO g vs R M) (EO (As g (aE s) (G w.1.size)) (As vs (aE s) (aa I 0 0)) R M):=by
 have u:Only w w' (λk=>k=M):=bn B (λk e=>(an e).symm);have mem:∀k,RMem (As g (aE s) (G w.1.size)) (As vs (aE s) (aa I 0 0)) k->RMem g vs k\/k=w.1.size:=by
  rintro k ⟨t,b,d,f⟩;by_cases e:t=aE s
  ·subst e;rw[AE]at d f;obtain rfl:=an d;rcases f with rfl|f
   ·exact ax rfl
   ·simp[av]at f
  ·rw[Ak _ _ e]at d f;exact ai ⟨t,b,d,f⟩
 have x:=h.1.kept u (λk f=>(h.ne f).2);refine⟨⟨⟨λt b d=>?_,λt o b d a=>?_,λt o b b' c d a v p=>?_⟩,?_,(u.5 R (h.lt (ax (ai rfl))) h.neM).trans h.3,h.4,h.m,λi hi=>?_,h.7,λl r=>?_⟩,⟨u.mono (λk _ e=>ax (ax e)),?_⟩⟩
 ·by_cases e:t=aE s
  ·subst e;rw[AE]at d⊢;obtain rfl:=an d;rw[h.8 _ D];exact⟨A,aw _ _ _ _⟩
  ·rw[Ak _ _ e]at d⊢;exact x.q t b d
 ·by_cases e:t=aE s
  ·subst e;rw[AE]at d;obtain rfl:=an d;by_cases j:o=aE s
   ·exact j.symm
   ·rw[Ak _ _ j]at a;have:=h.1.lt ⟨o,_,a,ai rfl⟩;omega
  ·rw[Ak _ _ e]at d;by_cases j:o=aE s
   ·subst j;rw[AE]at a;obtain rfl:=an a;have:=h.1.lt ⟨t,_,d,ai rfl⟩;omega
   ·rw[Ak _ _ j]at a;exact h.1.2 t o b d a
 ·by_cases e:t=aE s
  ·subst e;rw[AE]at p;simp[av]at p
  ·rw[Ak _ _ e]at d p;by_cases j:o=aE s
   ·subst j;rw[AE];simp[av]
   ·rw[Ak _ _ j]at a⊢;exact h.1.3 t o b b' c d a v p
 ·have e:(λt=>As g (aE s) (G w.1.size) (aE t))=(λt=>if t=s then G w.1.size else g (aE t)):=by
   funext t;unfold As;by_cases e:t=s
   ·subst e;simp
   ·rw[if_neg (by simpa using e),if_neg e]
  rw[e];exact z
 ·obtain⟨b,H,L⟩:=h.6 i hi;exact⟨b,by rw[Ak _ _ oS];exact H,L⟩
 ·by_cases e:l=aE s
  ·subst e;rw[AE]at r;cases r
  ·rw[Ak _ _ e]at r;exact h.8 l r
 ·rintro k (f|f)
  ·rcases mem k f with y|rfl
   ·exact ai (ai y)
   ·exact ax (ah _)
  ·exact ai (ax f)
theorem Rs.turnR(h:Rs w0 P0 R M cs g Q N w){v:au}{t:TypeId}(z:Turned w w' R v)(u:∀k,v.ownBlock=G k->(∃c,w.1[k]?=G (aB c t (0,0)))/\(P0 k\/w0.1.size<=k))(D:t≠126)(H:t≠192)(U:t≠68)(A:Blk w' R cs' 68)(B:cs'.size=30)(j:∀k,2<=k->k<7->cs'[k]?=cs[k]?):Rs w0 P0 R M cs' g Q N w':=by
 obtain⟨n,vs,d,o,y⟩:=h;have p:=bV z;have s:∀k,RMem g vs k\/k=M->¬(k=R\/v.ownBlock=G k):=by
  rintro k f (e|e)
  ·rcases f with f|rfl
   ·exact(d.ne f).1 e
   ·exact d.neM e.symm
  ·obtain⟨⟨c,j⟩,-⟩:=u k e;rcases f with f|rfl
   ·obtain⟨x,V,a,l⟩:=d.1.cells f;rw[j]at a;injection a with a;injection a with _ a;subst a;rcases l with l|l
    ·exact D l
    ·exact H l
   ·obtain⟨S,x,r⟩:=d.2.obj;rw[j]at r;cases r
 refine⟨n,vs,⟨d.1.kept p (λk f=>s k (ai f)),d.2.same (p.5 M d.2.lt (s M (ax rfl))),A,B,(j 2 O O).trans d.m,λi hi=>?_,d.7,d.8⟩,⟨o.1.trans (p.mono (λk _ q=>?_)),o.2⟩,y⟩
 ·obtain⟨b,L,P⟩:=d.6 i hi;exact⟨b,L,(j (3+i) O O).trans P⟩
 ·rcases q with rfl|q
  ·exact o.2 _ (ax (ai rfl))
  ·exact(u k q).2
theorem Qo{g g':AN->Option Nat}{l:List Dd}(h:∀d∈l,g' d.3=g d.3):CI g' l=CI g l:=by
 induction l with
 |nil=>rfl
 |cons x r ih=>
  have e:∀g,CI g (x::r)=LY g x++CI g r:=λg=>by simp[CI]
  rw[e,e,ih (λd a=>h d (bF _ a))];congr 1;unfold LY;rw[h x (bI ..)]
end
theorem RO.names{L:Nat->Prop}{R M:Nat}{cs:Array au}{P P1:Nat->Prop}{g:AN->Option Nat}{nv f:au}{uv dv:Nat->au}{st:AV}{w w':aq}{l:List Nm}(h:RO L R M cs P P1 g nv uv dv st w)(o:RefN 1 68 cs w' R f l)(r:From w nv f)(q:Turned w w' R nv):Rs w P R M (cs.setIfInBounds 1 f) g st.Q st.N w'/\RU w' R (cs.setIfInBounds 1 f) l st.4 st.8 g f uv dv/\∀x,Ck f uv dv x->P x\/w.1.size<=x:=by
 have sz:=h.s.size;have a:∀k,k≠1->(cs.setIfInBounds 1 f)[k]?=cs[k]?:=λk m=>by rw[F,if_neg O]
 have p:=bV q;have nR:=h.u.neR h.s.here;have ne:∀k t,t≠45->(∃c,w.1[k]?=G (aB c t (0,0)))->¬nv.ownBlock=G k:=λk t v ⟨c,d⟩ e=>by obtain⟨z,b⟩:=AD h.u.2 e;rw[d]at b;injection b with b;injection b with _ b;exact v b
 refine⟨(h.s.more h.4).turnR q (λk m=>⟨AD h.u.2 m,ai (h.5 k (ai m))⟩) oD oD oD o.1 (by rw[aP];exact sz) (λk A B=>a k O),⟨by rw[F,if_pos rfl,if_pos O],o.3,λu j=>(a _ O).trans (h.u.3 u j),λu j=>Ap (h.u.4 u j) (λc d=>p.5 c (h.u.lt (ax (ai ⟨u,j,d⟩))) ?_),h.u.5,λi hi=>(a _ O).trans (h.u.6 i hi),λi hi=>Ap (h.u.7 i hi) (λc d=>p.5 c (h.u.lt (ax (ax ⟨i,hi,d⟩))) ?_),h.u.8⟩,?_⟩
 ·rintro(e|e)
  ·exact nR c (ax (ai ⟨u,j,d⟩)) e
  ·exact ne c 202 oD (AD (h.u.4 u j) d) e
 ·rintro(e|e)
  ·exact nR c (ax (ax ⟨i,hi,d⟩)) e
  ·exact ne c 3 oD (AD (h.u.7 i hi) d) e
 ·rintro x (hx|hx)
  ·exact(r x hx).imp (λy=>h.5 x (ai y)) id
  ·exact ai (h.5 x (ax hx))
def Va(st:AV)(x:Nm):Int:=if Bo st.3 x=0 then(if x.1=Al then 5 else CG st)else Bo st.3 x
def RN(st:AV)(x:Nm):AV:=if Bo st.3 x=0/\x.1≠Al then(if CG st=0 then{Ba st with nl:=BU st.3 x,N:=st.N+1}else Ba st)else st
theorem Rs.nmono{w w0:aq}{P0:Nat->Prop}{R M N a:Nat}{cs:Array au}{g:AN->Option Nat}{Q:AN->List Pl}(h:Rs w0 P0 R M cs g Q N w)(e:N<=a):Rs w0 P0 R M cs g Q a w:=by obtain⟨n,vs,b,c,d⟩:=h;exact⟨n,vs,b,c,ay d e⟩
theorem Rs.made{w w0 w':aq}{P0:Nat->Prop}{R M N:Nat}{cs:Array au}{g:AN->Option Nat}{Q:AN->List Pl}(h:Rs w0 P0 R M cs g Q N w)(v:N<1000000)(s:ByteArray)(o:g (aE s)=I)(m:s.size<=aU)(d:ae w.1.size w w')(f:Blk w' w.1.size #[aa I 0 0] 126):∃a,(Instr.mapUpdate 59 (bU (G M)) (E s) (C (G ⟨w.1.size,0,I⟩))).run T w'=.ok () a/\Rs w0 P0 R M cs (As g (aE s) (G w.1.size)) Q (N+1) a/\w.grownBy a (G M):=by obtain⟨n,vs,b,k,u⟩:=h;obtain⟨a,r,t,j⟩:=(b.2.below d).put59 (by unfold aU;omega) s w.1.size m;have c:w.1.size<w'.1.size:=(Y.1 f).1;have l:=b.2.lt;have i:w.grownBy a (G M):=Ag (Be M d) j;obtain⟨p,q⟩:=b.made o t ((j.5 _ c (λe=>by cases e;omega)).trans f) i;exact⟨a,r,⟨n+1,_,p,k.trans q,O⟩,i⟩
theorem refSet_mem{ls:List Nm}{x y:Nm}(h:y∈BU ls x):y∈ls\/y=x:=by
 unfold BU at h;split at h
 ·rcases bz.1 h with a|a
  ·exact ai (IF a)
  ·exact ax (aV.1 a)
 ·exact ai h
theorem Fi(st:AV):(Ba st).3=st.3/\(Ba st).Q=st.Q/\(Ba st).N=st.N/\(Ba st).4=st.4/\(Ba st).8=st.8/\(Ba st).5=st.5/\(Ba st).6=st.6/\(Ba st).7=st.7/\(Ba st).9=st.9/\(Ba st).ar=st.ar:=by
 unfold Ba;split
 ·exact⟨rfl,rfl,rfl,rfl,rfl,rfl,rfl,rfl,rfl,rfl⟩
 ·split<;>exact⟨rfl,rfl,rfl,rfl,rfl,rfl,rfl,rfl,rfl,rfl⟩
theorem RSc.of{cs cs':Array au}{st st':AV}(h:RSc cs st)(e:∀k,k=0\/k=12\/k=13\/(18<=k/\k<30)->cs'[k]?=cs[k]?)(b:st'.5=st.5/\st'.6=st.6/\st'.7=st.7/\st'.9=st.9/\st'.ar=st.ar/\st'.11=st.11/\st'.12=st.12/\st'.13=st.13/\st'.14=st.14):RSc cs' st':=by obtain⟨c,d,f,j,l,m,o,a,p⟩:=b;obtain⟨v,q,v2⟩:=h.9;exact⟨by rw[e 0 O,c];exact h.1,by rw[e 12 O,d];exact h.2,by rw[e 13 O,f];exact h.3,λi hi=>by rw[e _ O,j];exact h.4 i hi,λi hi=>by rw[e _ O,l];exact h.5 i hi,by rw[e 26 O,m];exact h.6,by rw[e 27 O,o];exact h.7,by rw[e 28 O,a];exact h.8,v,by rw[e 29 O];exact q,by rw[a,p];exact v2⟩
theorem Wq(L:Nat->Prop)(R:Nat)(st:AV)(x:Nm)(w:aq)(h:Rx L R st w)(hx:x.wf)(hn:st.3.length<=1000)(hN:st.N<1000000)(hu:0<=st.11/\st.11<=1000000)(c3:st.13=ao->0<=st.14):aC T 13 #[C (G ⟨R,0,I⟩),x.val] w λe w'=>e=ab (Z J (Va st x))/\Rx L R (RN st x) w'/\Only w w' (λx=>¬L x):=by
 obtain⟨a,f,nh⟩:=x;simp only[Nm.val];have B:=Blk.new w #[E a,E f,Z J nh] 45;obtain⟨j,b9⟩:∃j,w.alloc (aB #[E a,E f,Z J nh] 45)=j:=⟨_,rfl⟩;have b2:ae w.1.size w j:=by rw[<-b9];exact(ad _ _).alloc (ah _) _
 rw[b9]at B;have hX:w.1.size<j.1.size:=(Y.1 B).1;have h0:Rx (λk=>L k\/k=w.1.size) R st j:=h.more ((ak (P:=λ_=>False) b2).mono (λ_ _ h=>h.elim)) (λk D=>by
  rcases D with D|rfl
  ·obtain⟨M,cs,P,P1,g,nv,uv,dv,h⟩:=h.open;exact⟨ai D,az (h.8 k D) b2.4⟩
  ·exact⟨ax (ah _),hX⟩);have HS:Hid (∀W,Only j W (λk=>¬(L k\/k=w.1.size))->(W.cell? ⟨w.1.size,0,I⟩=G (E a)/\W.cell? ⟨w.1.size,1,I⟩=G (E f)/\W.cell? ⟨w.1.size,2,I⟩=G (Z J nh))/\Only j W (λk=>¬(L k\/k=w.1.size))):=Aa (λW hO=>by have nb:¬¬(L w.1.size\/w.1.size=w.1.size):=λh=>h (ax rfl);exact⟨⟨(hO.cell (o:=0) hX nb).trans (by simpa using B.cell 0),(hO.cell (o:=1) hX nb).trans (by simpa using B.cell 1),(hO.cell (o:=2) hX nb).trans (by simpa using B.cell 2)⟩,hO⟩);have c6:Hid (∀W,ae j.1.size j W->(W.cell? ⟨w.1.size,0,I⟩=G (E a)/\W.cell? ⟨w.1.size,1,I⟩=G (E f)/\W.cell? ⟨w.1.size,2,I⟩=G (Z J nh))/\ae j.1.size j W):=Aa (λW S=>⟨(HS.o W (ak S)).1,S⟩);have X:Hid (∀st' W,Rx (λk=>L k\/k=w.1.size) R st' W->Only j W (λk=>¬(L k\/k=w.1.size))->Rx L R st' W/\Only w W (λk=>¬L k)):=Aa (λst' W q1 q2=>⟨q1.more (aJ _ _) (λk D=>by obtain⟨M,cs,P,P1,g,nv,uv,dv,q1⟩:=q1.open;exact⟨ai (ai D),q1.8 k (ai D)⟩),(ak (P:=λk=>¬L k) b2).trans (q2.mono (λk _ D=>ai (λhl=>D (ai hl))))⟩);have HM:Hid (∀W,ae j.1.size j W->aC T 43 #[C (G ⟨R,1,I⟩),cj #[E a,E f,Z J nh]] W λe w'=>e=ab (Z J (Bo st.3 ⟨a,f,nh⟩))/\ae j.1.size j w'):=Aa (λW S=>by obtain⟨M,cs,P,P1,g,nv,uv,dv,h0⟩:=h0.open;exact(PC R nv st.3 ⟨a,f,nh⟩ W (h0.below S).refN hn hx).mono (λe w' q=>⟨q.1,Ab S S.4 q.2⟩));have HWr:Hid (∀W,ae j.1.size j W->aC T 44 #[C (G ⟨R,0,I⟩)] W λe w'=>e=ab (Z J (CG st))/\Rx (λk=>L k\/k=w.1.size) R (Ba st) w'/\Only j w' (λk=>¬(L k\/k=w.1.size))):=Aa (λW S=>(Ni _ R st W (h0.below S) hu c3).mono (λe w' q=>⟨q.1,q.2.1,((ak S).trans (q.2.2.mono (λk _ D=>ai D)))⟩));have HE:Hid (Va st ⟨a,f,nh⟩=if Bo st.3 ⟨a,f,nh⟩=0 then(if a=Al then 5 else CG st)else Bo st.3 ⟨a,f,nh⟩):=Aa rfl;have A:Hid (RN st ⟨a,f,nh⟩=if Bo st.3 ⟨a,f,nh⟩=0/\a≠Al then(if CG st=0 then{Ba st with nl:=BU st.3 ⟨a,f,nh⟩,N:=st.N+1}else Ba st)else st):=Aa rfl;obtain⟨se,c7⟩:∃q,Hid (Bo st.3 ⟨a,f,nh⟩=q):=⟨_,rfl⟩;rw[c7.o]at HM HE A;obtain⟨we,c8⟩:∃q,Hid (CG st=q):=⟨_,rfl⟩;rw[c8.o]at HWr HE A;generalize Va st ⟨a,f,nh⟩=re at HE⊢;generalize RN st ⟨a,f,nh⟩=rs at A⊢;have H0:=Aa h0;have d0:Only j j (λk=>¬(L k\/k=w.1.size)):=aJ _ _;obtain⟨⟨c0,c1,c2⟩,-⟩:=HS.o j d0;have d8:=Aa B;clear h h0 B hu c3;go_enter func13,ntmps13;go_wp2;have e0:ae j.1.size j j:=ad _ _;go_region_held3(λW=>(W.cell? ⟨w.1.size,0,I⟩=G (E a)/\W.cell? ⟨w.1.size,1,I⟩=G (E f)/\W.cell? ⟨w.1.size,2,I⟩=G (Z J nh))/\ae j.1.size j W)
  ((refine c6.o _ ?_;repeat(with_reducible first|assumption|refine br ?_)))
  ((go_at_call 43;refine Calls.mono (HM.o _ (by repeat(with_reducible first|assumption|refine br ?_))) ?_;rintro e w1 ⟨rfl,b3⟩));all_goals
  have b4:Only j w1 (λk=>¬(L k\/k=w.1.size)):=ak b3;obtain⟨⟨c0,c1,c2⟩,-⟩:=HS.o w1 b4;have a0:=Aa (HWr.o w1 b3);have b0:=Aa (X.o st w1 (H0.o.below b3) b4);by_cases hz:se=0;case neg=>
   have he:re=se:=by rw[HE.o,if_neg hz]
   have b5:rs=st:=by rw[A.o,if_neg (λh=>hz h.1)]
   subst he;subst b5;have d5:(re==0)=am:=by simpa using hz
   clear hz a0 HWr HM;go_wp2;go_ret;exact⟨rfl,b0.o⟩
  subst hz;by_cases U:a=Al
  ·have e:a.toList=[100,101,97,100]:=by rw[U,aT];rfl
   have he:re=5:=by rw[HE.o,if_pos rfl,if_pos U]
   have b5:rs=st:=by rw[A.o,if_neg (λh=>h.2 U)]
   subst he;subst b5;clear U a0 HWr HM;go_wp2;go_ret;exact⟨rfl,b0.o⟩
  have e1:¬a.toList=[100,101,97,100]:=λe=>U (aY (aR.1 (by rw[aT]at e;exact e)));have e2:(a.toList==[100,101,97,100])=am:=by simpa using e1
  have d3:re=we:=by rw[HE.o,if_pos rfl,if_neg U]
  have b1:Hid (rs=if we=0 then{Ba st with nl:=BU st.3 ⟨a,f,nh⟩,N:=st.N+1}else Ba st):=Aa (by rw[A.o,if_pos ⟨rfl,U⟩]);subst d3;clear U e1 HWr HM HE A b0 b4;go_wp2_with(go_at_call 44;go_must(refine a0.o.mono ?_);rintro e w2 ⟨rfl,a5,a2⟩;refine ac ?_);refine Aa ?_;by_cases a6:re=0;case neg=>
   have d5:(re==0)=am:=by simpa using a6
   have a3:=Aa (X.o _ w2 a5 a2);have v:Hid (rs=Ba st):=Aa (by rw[b1.o,if_neg a6]);clear a5 a2 a6 a0;go_wp2;go_ret;rw[v.o];exact⟨rfl,a3.o⟩
  subst a6;have v:Hid (rs={Ba st with nl:=BU st.3 ⟨a,f,nh⟩,N:=st.N+1}):=Aa (by rw[b1.o,if_pos rfl]);have a3:=Aa a5;have b6:=Aa a2;obtain⟨⟨c0,c1,c2⟩,-⟩:=HS.o w2 a2;clear a5 a2 a0 b1;obtain⟨M,cs,P,P1,g,nv,uv,dv,h2⟩:=a3.o.open;have a4:w.1.size<w2.1.size:=az hX b6.o.4;have d7:=h2.wf;have a8:Hid (∀W,ae w2.1.size w2 W->aC T 45 #[C (G ⟨R,1,I⟩),cj #[E a,E f,Z J nh]] W λe w'=>(∃z,e=ab (Z J z))/\∃V,Hid (Rs w2 P R M (cs.setIfInBounds 1 V) g st.Q st.N w'/\RU w' R (cs.setIfInBounds 1 V) (BU st.3 ⟨a,f,nh⟩) st.4 st.8 g V uv dv/\∀x,Ck V uv dv x->P x\/w2.1.size<=x)):=Aa (λW S=>by obtain⟨e1,e2,e3,e4,e5,-⟩:=Fi st;refine(OE R nv (Ba st).3 ⟨a,f,nh⟩ W (h2.below S).refN (by rw[e1];exact hn) hx).mono (λe w' q=>?_);obtain⟨q1,⟨V,q2,q3⟩,q4⟩:=q;have q5:=h2.names (w':=w') q2 (λc hc=>(q3 c hc).imp id (λy=>ay S.4 y)) (q4.from_below S);rw[e1,e2,e3,e4,e5]at q5;exact⟨⟨_,q1⟩,V,Aa q5⟩);have a7:Hid (∀W,Only w2 W P->(W.cell? ⟨w.1.size,0,I⟩=G (E a)/\W.cell? ⟨w.1.size,1,I⟩=G (E f)/\W.cell? ⟨w.1.size,2,I⟩=G (Z J nh))/\Only w2 W P):=Aa (λW hO=>by have nb:=h2.7 w.1.size (ax rfl);exact⟨⟨(hO.cell (o:=0) a4 nb).trans c0,(hO.cell (o:=1) a4 nb).trans c1,(hO.cell (o:=2) a4 nb).trans c2⟩,hO⟩);have e7:Only w2 w2 P:=aJ _ _;have d6:ae w2.1.size w2 w2:=ad _ _;have H2:=Aa h2;clear a3 h2;go_wp2;go_region_held3(λW=>(W.cell? ⟨w.1.size,0,I⟩=G (E a)/\W.cell? ⟨w.1.size,1,I⟩=G (E f)/\W.cell? ⟨w.1.size,2,I⟩=G (Z J nh))/\Only w2 W P)
   ((refine a7.o _ ?_;repeat(with_reducible first|assumption|refine Only.drew ?_)))
   ((go_at_call 45;refine Calls.mono (a8.o _ (by repeat(with_reducible first|assumption|refine br ?_))) ?_;rintro e w3 ⟨⟨z,rfl⟩,V,p⟩;have b8:Only w2 w3 P:=p.o.1.ev));all_goals
   obtain⟨⟨c0,c1,c2⟩,-⟩:=a7.o w3 b8;have d2:w3.cell? ⟨R,2,I⟩=G (bU (G M)):=(p.o.1.cell 2).trans p.o.1.m;have H:Hid ((Instr.lookup 59 (bU (G M)) (E a) am).run T w3.drew=.ok (Cd (g (aE a))) w3.drew):=Aa ((p.o.1.below (ad _ _).drew).look a hx.1);have HN:Hid (st.N<1000000):=Aa hN;have r:Hid (∀(g':AN->Option Nat) W,Rs w2 P R M (cs.setIfInBounds 1 V) g' st.Q (st.N+1) W->Only w3 W (λk=>k=M)->(∀l b,g l=G b->g' l=G b)->(f.toList.isEmpty=ao->∃b,g' (aE a)=G b)->(∀i,g' (aG i)=g (aG i))->Rx L R {Ba st with nl:=BU st.3 ⟨a,f,nh⟩,N:=st.N+1} W/\Only w W (λk=>¬L k)):=Aa (λg' W q1 q2 q3 q4 q5=>by
    obtain⟨e1,e2,e3,e4,e5,e6⟩:=Fi st;have sz:=H2.o.s.size;have c9:∀k,Ck V uv dv k->¬k=M:=λk D e=>by obtain⟨c,t,hc,-⟩:=p.o.2.1.cells D;obtain⟨n,vs,r1,-⟩:=p.o.1;obtain⟨es,c',hm⟩:=r1.2.obj;rw[e,hm]at hc;cases hc
    have hU:=p.o.2.1.kept q2 c9;have d1:∀u,u<5->CI g' (st.4 u)=CI g (st.4 u):=λu hu=>Qo (λd U=>by obtain⟨b,hb⟩:=H2.o.wf.4 u hu d (by rw[e4];exact U);rw[q3 _ _ hb,hb]);obtain⟨r1,r2⟩:=H2.o.fin (st':={Ba st with nl:=BU st.3 ⟨a,f,nh⟩,N:=st.N+1}) (cs':=cs.setIfInBounds 1 V) (g':=g') (nv':=V) (uv':=uv) (dv':=dv) (by rw[e2];exact q1) (by
     rw[e4,e5];exact⟨hU.1,hU.2,hU.3,λu hu=>by rw[d1 u hu];exact hU.4 u hu,hU.5,hU.6,hU.7,hU.8⟩) p.o.2.2
     (H2.o.9.of (λk D=>by rw[F,if_neg O]) ⟨rfl,rfl,rfl,rfl,rfl,rfl,rfl,rfl,rfl⟩)
     ⟨by obtain⟨b,hb⟩:=H2.o.wf.1;exact⟨b,q3 _ _ hb⟩,λy hy c5=>by
      rcases refSet_mem hy with h1|rfl
      ·obtain⟨b,hb⟩:=H2.o.wf.2 y (by rw[e1];exact h1) c5;exact⟨b,q3 _ _ hb⟩
      ·exact q4 c5,λi hi=>by rw[q5];exact H2.o.wf.3 i hi,λu hu d U=>by
      obtain⟨b,hb⟩:=H2.o.wf.4 u hu d U;exact⟨b,q3 _ _ hb⟩⟩;exact X.o _ W r1 (b6.o.thenL r2));obtain⟨o,Ho⟩:∃o,Hid (g (aE a)=o):=⟨_,rfl⟩;rw[Ho.o]at H;have d9:=Aa p.o.1;have HR:=Aa p.o.1;clear a8 b8 H2 p;cases hte:f.toList.isEmpty with
   |false=>
    have HD:=Aa (r.o g w3.drew ((HR.o.nmono (ch _)).below (ad _ _).drew) (ak (ad _ _).drew) (λ_ _ h=>h) (λh=>by rw[hte]at h;cases h) (λ_=>rfl));have d4:¬f.toList=[]:=λe=>by rw[e]at hte;cases hte
    have f0:(f.toList==[])=am:=by simpa using d4
    go_wp2;go_region;go_wp2;go_ret;rw[v.o];exact⟨rfl,HD.o⟩
   |true=>
    cases o with
    |some b=>have HD:=Aa (r.o g w3.drew ((HR.o.nmono (ch _)).below (ad _ _).drew) (ak (ad _ _).drew) (λ_ _ h=>h) (λ_=>⟨b,Ho.o⟩) (λ_=>rfl));simp only[Cd]at H;have c4:=H.o;go_wp2;go_region_held3(λW=>W=w3.drew) (rfl) (fail);go_wp2;go_ret;rw[v.o];exact⟨rfl,HD.o⟩
    |none=>
     simp only[Cd]at H;have c4:=H.o;go_wp2;go_region_held3(λW=>W=w3.drew) (rfl) (fail);obtain⟨W4,a1⟩:∃W4,Hid (w3.drew=W4):=⟨_,rfl⟩;have k0:w3.drew.cell? ⟨w.1.size,0,I⟩=G (E a):=c0;have k2:w3.drew.cell? ⟨R,2,I⟩=G (bU (G M)):=d2;rw[a1.o]at k0 k2;have a9:Hid (Rs w2 P R M (cs.setIfInBounds 1 V) g st.Q st.N W4):=Aa (by rw[<-a1.o];exact HR.o.below (ad _ _).drew);have b7:ae W4.1.size W4 (W4.alloc (aB #[aa I 0 0] 126)).drew:=((ad _ _).alloc (ah _) _).drew;obtain⟨w9,r1,r2,r3⟩:=a9.o.made HN.o a Ho.o hx.1 b7 (Blk.new W4 _ 126).drew;have hq:Only w3 w9 (λk=>k=M):=by
      have q:Only W4 w9 (λk=>k=M):=bn r3 (λk e=>(an e).symm);have q0:Only w3 W4 (λk=>k=M):=by rw[<-a1.o];exact ak (ad _ _).drew
      exact q0.trans (q.mono (λ_ _ h=>ai h))
     have HD:=Aa (r.o _ w9 r2 hq (λl b hl=>by rw[Ak _ _ (λe=>by rw[e,Ho.o]at hl;cases hl)];exact hl) (λ_=>⟨_,AE _ _ _⟩) (λi=>Ak _ _ oS));have e9:w.1.size<W4.1.size:=by rw[<-a1.o];exact az a4 HR.o.ev.4
     have e8:R<W4.1.size:=(Y.1 a9.o.here).1;clear r2 r3 b7 a9 r H c4 hq;rw[a1.o];go_wp2;go_region;go_wp2;go_ret;rw[v.o];exact⟨rfl,HD.o⟩
section
variable{L:Nat->Prop}{R M:Nat}{w w':aq}{P P1:Nat->Prop}{cs cs':Array au}{g g':AN->Option Nat}{st st':AV}{nv nv':au}{uv dv uv' dv':Nat->au}
theorem RO.after(h:RO L R M cs P P1 g nv uv dv st w)(c:Rs w P R M cs' g' st'.Q st'.N w')(b:RU w' R cs' st'.3 st'.4 st'.8 g' nv' uv' dv')(k:∀x,Ck nv' uv' dv' x->P x\/w.1.size<=x)(sc:RSc cs' st')(wf:RWf g' st'):∃P' P1',RO L R M cs' P' P1' g' nv' uv' dv' st' w'/\Only w w' (λx=>¬L x):=by
 obtain⟨d,g1,e,f,l,i⟩:=c.freshT;refine⟨λx=>d x\/Ck nv' uv' dv' x,d,⟨i w' (ad _ _),b,b.apart f,λx hx=>ai hx,λx hx=>ax hx,λx hx=>hx.elim (e x) (λy=>b.lt y),λx hx a=>?_,λx hx=>az (h.8 x hx) c.ev.4,sc,wf⟩,c.ev.mono (λx _ a hx=>h.7 x hx a)⟩;have j:=h.8 x hx;rcases a with a|a
 ·exact(g1.2 x a).elim (h.7 x hx) (λy=>O)
 ·exact(k x a).elim (h.7 x hx) (λy=>O)
theorem RO.box(h:RO L R M cs P P1 g nv uv dv st w)(c:ae w.1.size w w'){e:Nat}(d:w.1.size<=e)(a:e<w'.1.size):RO (λk=>L k\/k=e) R M cs P P1 g nv uv dv st w':=by
 have q:=h.below c;refine⟨q.s,q.u,q.3,q.4,q.5,q.6,λx hx b=>?_,λx hx=>?_,q.9,q.wf⟩
 ·rcases hx with hx|rfl
  ·exact q.7 x hx b
  ·have:=h.6 _ b;omega
 ·rcases hx with hx|rfl
  ·exact q.8 x hx
  ·exact a
theorem RO.unbox{a:Nat}(h:RO (λk=>L k\/k=a) R M cs P P1 g nv uv dv st w):RO L R M cs P P1 g nv uv dv st w:=⟨h.s,h.u,h.3,h.4,h.5,h.6,λx hx=>h.7 x (ai hx),λx hx=>h.8 x (ai hx),h.9,h.wf⟩
theorem RO.queues(h:RO L R M cs P P1 g nv uv dv st w){a:AN->List Pl}(b:Rs w P1 R M cs g a st.N w'):∃P' P1',RO L R M cs P' P1' g nv uv dv {st with Q:=a} w'/\Only w w' (λx=>¬L x):=h.after (st':={st with Q:=a}) (b.more h.4) (h.u.kept b.ev h.3) (λx hx=>ai (h.5 x hx)) (h.9.of (λ_ _=>rfl) ⟨rfl,rfl,rfl,rfl,rfl,rfl,rfl,rfl,rfl⟩) ⟨h.wf.1,h.wf.2,h.wf.3,h.wf.4⟩
theorem RO.count(h:RO L R M cs P P1 g nv uv dv st w)(c:Int):∃P' P1',RO L R M (cs.setIfInBounds 12 (Z J c)) P' P1' g nv uv dv {st with cnt:=c} (w.setCell ⟨R,12,I⟩ (Z J c))/\Only w (w.setCell ⟨R,12,I⟩ (Z J c)) (λx=>¬L x):=by
 have sz:=h.s.size;have a:∀k,k≠12->(cs.setIfInBounds 12 (Z J c))[k]?=cs[k]?:=λk b=>by rw[F,if_neg O]
 obtain⟨v,d,v2⟩:=h.9.9;exact h.after (st':={st with cnt:=c}) ((h.s.set 12 _ O).more h.4) ((h.u.kept (Only.set w R 12 _) (h.u.neR h.s.here)).same (λk b=>a k O)) (λx hx=>ai (h.5 x hx)) ⟨(a 0 O).trans h.9.1,by rw[F,if_pos rfl,if_pos O],(a 13 O).trans h.9.3,λi hi=>(a _ O).trans (h.9.4 i hi),λi hi=>(a _ O).trans (h.9.5 i hi),(a 26 O).trans h.9.6,(a 27 O).trans h.9.7,(a 28 O).trans h.9.8,v,(a 29 O).trans d,v2⟩ ⟨h.wf.1,h.wf.2,h.wf.3,h.wf.4⟩
theorem RO.did(h:RO L R M cs P P1 g nv uv dv st w){u:Nat}{d:Dd}{W w5:aq}{v5:au}{b:Nat}(D:u<5)(S:ae w.1.size w W)(hd:g d.3=G b)(hown:w5.ownsRow 0 202 7 v5 ((st.4 u).length+1) (CI g (st.4 u)++LY g d))(hg:W.grownBy w5 (uv u).ownBlock)(U:From W (uv u) v5):(w5.cell? ⟨R,7+u,I⟩=G (uv u)/\w5.frozen? ⟨R,7+u,I⟩=am/\Only w w5 (λx=>¬L x))/\∃P' P1',RO L R M (cs.setIfInBounds (7+u) v5) P' P1' g nv (Ae uv u v5) dv {st with did:=Ae st.4 u (st.4 u++[d])} (w5.setCell ⟨R,7+u,I⟩ v5)/\Only w (w5.setCell ⟨R,7+u,I⟩ v5) (λx=>¬L x):=by
 have sz:=h.s.size;have m:=h.below S;have n:Rs w P R M cs g st.Q st.N w5:=((h.s.more h.4).below S).row (t:=202) hg oD oD oD (λk B=>⟨AD (m.u.4 u D) B,ai (h.5 k (ax (ai ⟨u,D,B⟩)))⟩);have a:∀k,k≠7+u->(cs.setIfInBounds (7+u) v5)[k]?=cs[k]?:=λk B=>by rw[F,if_neg O]
 have p:Only W w5 (λk=>(uv u).ownBlock=G k):=bn hg (λk e=>e);have ne:∀k t,t≠202->(∃c,W.1[k]?=G (aB c t (0,0)))->¬(uv u).ownBlock=G k:=λk t V ⟨c,f⟩ e=>by obtain⟨c',l⟩:=AD (m.u.4 u D) e;rw[f]at l;injection l with l;injection l with _ l;exact V l
 have A:RU w5 R (cs.setIfInBounds (7+u) v5) st.3 (Ae st.4 u (st.4 u++[d])) st.8 g nv (Ae uv u v5) dv:=by
  refine⟨(a 1 O).trans h.u.1,Ap m.u.2 (λc f=>p.5 c (m.u.lt (ai f)) (ne c 45 oD (AD m.u.2 f))),λv j=>?_,λv j=>?_,λv x c j hx z f=>?_,λi hi=>(a _ O).trans (h.u.6 i hi),λi hi=>Ap (m.u.7 i hi) (λc f=>p.5 c (m.u.lt (ax (ax ⟨i,hi,f⟩))) (ne c 3 oD (AD (m.u.7 i hi) f))),h.u.8⟩
  ·by_cases q:v=u
   ·subst q;rw[Ad,F,if_pos rfl,if_pos O]
   ·rw[Ac _ _ q];exact(a _ O).trans (h.u.3 v j)
  ·by_cases q:v=u
   ·subst q;rw[Ad,Ad,af,ST];simpa[CI]using hown
   ·rw[Ac _ _ q,Ac _ _ q];exact Ap (m.u.4 v j) (λc f=>p.5 c (m.u.lt (ax (ai ⟨v,j,f⟩))) (h.u.5 v u c j D q f))
  ·by_cases q:v=u
   ·subst q;rw[Ad]at f;rw[Ac _ _ (Ne.symm z)];rcases U c f with o|o
    ·exact h.u.5 v x c j hx z o
    ·intro H;have:=m.u.lt (ax (ai ⟨x,hx,H⟩));omega
   ·rw[Ac _ _ q]at f;by_cases q':x=u
    ·subst q';rw[Ad];intro H;rcases U c H with o|o
     ·exact h.u.5 v x c j hx q f o
     ·have:=m.u.lt (ax (ai ⟨v,j,f⟩));omega
    ·rw[Ac _ _ q'];exact h.u.5 v x c j hx z f
 have X:∀x,Ck nv (Ae uv u v5) dv x->P x\/w.1.size<=x:=by
  rintro x (hx|⟨v,j,hx⟩|hx)
  ·exact ai (h.5 x (ai hx))
  ·by_cases q:v=u
   ·subst q;rw[Ad]at hx;exact(U x hx).imp (λy=>h.5 x (ax (ai ⟨v,j,y⟩))) (λy=>ay S.4 y)
   ·rw[Ac _ _ q]at hx;exact ai (h.5 x (ax (ai ⟨v,j,hx⟩)))
  ·exact ai (h.5 x (ax (ax hx)))
 obtain⟨v,v1,v2⟩:=h.9.9;refine⟨⟨(n.cell (7+u)).trans (h.u.3 u D),n.free (7+u),n.ev.mono (λx _ hp hx=>h.7 x hx hp)⟩,h.after (st':={st with did:=Ae st.4 u (st.4 u++[d])}) (n.set (7+u) v5 O) (A.kept (Only.set w5 R (7+u) v5) (λk B e=>?_)) X ⟨(a 0 O).trans h.9.1,(a 12 O).trans h.9.2,(a 13 O).trans h.9.3,λi hi=>(a _ O).trans (h.9.4 i hi),λi hi=>(a _ O).trans (h.9.5 i hi),(a 26 O).trans h.9.6,(a 27 O).trans h.9.7,(a 28 O).trans h.9.8,v,(a 29 O).trans v1,v2⟩ ⟨h.wf.1,h.wf.2,h.wf.3,λv j x hx=>?_⟩⟩
 ·obtain⟨c,t,f,V⟩:=A.cells B;have r:=n.here;unfold Blk at r;rw[<-e,f]at r;injection r with r;injection r with _ r;rcases V with rfl|rfl|rfl<;>cases r
 ·have hx:x∈Ae st.4 u (st.4 u++[d]) v:=hx;by_cases q:v=u
  ·subst q;rw[show(Ae st.4 v (st.4 v++[d])) v=st.4 v++[d]from Ad _ _ _]at hx;rcases bz.1 hx with o|o
   ·exact h.wf.4 v j x o
   ·obtain rfl:=aV.1 o;exact⟨b,hd⟩
  ·rw[show(Ae st.4 u (st.4 u++[d])) v=st.4 v from Ac _ _ q]at hx;exact h.wf.4 v j x hx
end
theorem IE:(T.info? 202).map (λi=>(i.8,i.3,i.4))=G (G (cj #[aM am,Z J 0,Z J 0,E ⟨#[]⟩,E ⟨#[]⟩,Z J 0,C I]),7,72):=K
theorem IA{w:aq}(d:Dd)(b:Nat):∀j u,[aM d.1,Z J d.m.1,Z J d.m.2,E d.m.3,E d.m.4,Z J d.m.5,C (G ⟨b,0,I⟩)][j]?=G u->(w.alloc (aB #[aM d.1,Z J d.m.1,Z J d.m.2,E d.m.3,E d.m.4,Z J d.m.5,C (G ⟨b,0,I⟩)] 202)).cell? ((⟨w.1.size,0,I⟩:Addr).add j)=G u:=by
 intro j u a;rw[AI,World.cell?_alloc_at _ _ _ _ rfl,Nat.zero_add];match j,a with
 |0,a=>exact a
 |1,a=>exact a
 |2,a=>exact a
 |3,a=>exact a
 |4,a=>exact a
 |5,a=>exact a
 |6,a=>exact a
 |j+7,a=>simp at a
def Yv(L:Nat->Prop)(R M:Nat)(g:AN->Option Nat)(nv:au)(uv dv:Nat->au)(st:AV)(w w':aq):Prop:=∃cs' P' P1',RO L R M cs' P' P1' g nv uv dv st w'/\Only w w' (λx=>¬L x)
theorem CT{L:Nat->Prop}{R M:Nat}{D:Array au}{P P1:Nat->Prop}{g:AN->Option Nat}{nv:au}{uv dv:Nat->au}(st:AV)(w:aq)(h:RO L R M D P P1 g nv uv dv st w)(hu:0<=st.11/\st.11<=1000000)(hl:st.13=ao->0<=st.14):aC T 44 #[C (G ⟨R,0,I⟩)] w λe w'=>e=ab (Z J (CG st))/\Yv L R M g nv uv dv (Ba st) w w':=by
 have j:=h.s;have N:=h.u;have d:=h.9;have r:=h.wf;obtain⟨v,v1,v2,v3,v4⟩:=d.9;have a0:=(j.cell 27).trans d.7;have X:=(j.cell 26).trans d.6;have a1:=(j.cell 28).trans d.8;have a3:=(j.cell 29).trans v1;have f27:=j.free 27;have f26:=j.free 26;have f29:=j.free 29;have sz:=j.size;have same:Hid (Yv L R M g nv uv dv st w w):=Aa ⟨D,P,P1,h,aJ _ _⟩;obtain⟨u0,u1⟩:=hu;have Q:∀k,Ck nv uv dv k->¬k=R:=λk n e=>by obtain⟨c,t,hc,ht⟩:=N.cells n;have A:=j.here;unfold Blk at A;rw[<-e,hc]at A;injection A with A;injection A with _ A;rcases ht with rfl|rfl|rfl<;>cases A
 have U:Hid (Yv L R M g nv uv dv {st with down:=ao} w (w.setCell ⟨R,27,I⟩ (aM ao))):=Aa (by
  have a:∀k,k≠27->(D.setIfInBounds 27 (aM ao))[k]?=D[k]?:=λk n=>by rw[F,if_neg O]
  refine⟨_,h.after (st':={st with down:=ao}) ((j.set 27 (aM ao) O).more h.4) ((N.kept (Only.set w R 27 _) Q).same (λk n=>a k O)) (λx hx=>ai (h.5 x hx)) ⟨(a 0 O).trans d.1,(a 12 O).trans d.2,(a 13 O).trans d.3,λi hi=>(a _ O).trans (d.4 i hi),λi hi=>(a _ O).trans (d.5 i hi),(a 26 O).trans d.6,by rw[F,if_pos rfl,if_pos O],(a 28 O).trans d.8,v,(a 29 O).trans v1,v2,v3,v4⟩ ⟨r.1,r.2,r.3,r.4⟩⟩);have m:Hid (∀f:Int,(st.13=ao->f=st.14-1)->-9223372036854775808<=f->f<=9223372036854775807->Yv L R M g nv uv dv {st with used:=st.11+1,left:=st.14-1} w ((w.setCell ⟨R,29,I⟩ (Z J f)).setCell ⟨R,26,I⟩ (Z J (st.11+1)))):=Aa (λf e1 e2 e3=>by
  have a:∀k,k≠29->k≠26->((D.setIfInBounds 29 (Z J f)).setIfInBounds 26 (Z J (st.11+1)))[k]?=D[k]?:=λk n a4=>by rw[F,if_neg O,F,if_neg O]
  have s1:=j.set 29 (Z J f) O;have s2:=s1.set 26 (Z J (st.11+1)) O;refine⟨_,h.after (st':={st with used:=st.11+1,left:=st.14-1}) (s2.more h.4) (((N.kept (Only.set w R 29 _) Q).kept (Only.set _ R 26 _) Q).same (λk n=>a k O O)) (λx hx=>ai (h.5 x hx)) ⟨(a 0 O O).trans d.1,(a 12 O O).trans d.2,(a 13 O O).trans d.3,λi hi=>(a _ O O).trans (d.4 i hi),λi hi=>(a _ O O).trans (d.5 i hi),by rw[F,if_pos rfl,if_pos (by rw[aP];omega)],(a 27 O O).trans d.7,(a 28 O O).trans d.8,f,by rw[F,if_neg O,F,if_pos rfl,if_pos O],e1,e2,e3⟩ ⟨r.1,r.2,r.3,r.4⟩⟩);have a2:∀f:au,(w.setCell ⟨R,29,I⟩ f).cell? ⟨R,26,I⟩=G (Z J st.11):=λf=>by rw[(j.set 29 f O).cell 26,F,if_neg O];exact d.6
 have t26:∀f:au,(w.setCell ⟨R,29,I⟩ f).frozen? ⟨R,26,I⟩=am:=λf=>(j.set 29 f O).free 26;have p:Hid (CG st=if st.12=ao then 6 else if 300<=st.11 then 4 else if st.13=ao/\st.14=0 then 14 else 0):=Aa rfl;have HS:Hid (Ba st=if CG st=0 then{st with used:=st.11+1,left:=st.14-1}else if CG st=14 then{st with down:=ao}else st):=Aa rfl;have H:=Aa v2;have Hl:=Aa hl;obtain⟨dn,W⟩:∃q,Hid (st.12=q):=⟨_,rfl⟩;obtain⟨of,z⟩:∃q,Hid (st.13=q):=⟨_,rfl⟩;obtain⟨us,l⟩:∃q,Hid (st.11=q):=⟨_,rfl⟩;rw[W.o]at a0 p;rw[z.o]at a1 p H Hl;rw[l.o]at X p u0 u1 a2;generalize CG st=we at p HS⊢;generalize Ba st=ws at HS⊢;clear h j N d r v1 v2 Q hl;cases dn
 ·by_cases n:300<=us
  ·have y:we=4:=by rw[p.o,if_neg oD,if_pos n]
   subst y;have b:Hid (ws=st):=Aa (by rw[HS.o,if_neg oD,if_neg oD]);go_enter aZ,aW;go_wp2;go_ret;rw[b.o];exact⟨rfl,same.o⟩
  ·cases of
   ·have y:we=0:=by rw[p.o,if_neg oD,if_neg n,if_neg oS]
    subst y;have b:Hid (ws={st with used:=st.11+1,left:=st.14-1}):=Aa (by rw[HS.o,if_pos rfl]);rw[l.o]at m;by_cases S:v=-9223372036854775808
    ·subst S;go_enter aZ,aW;go_wp2;go_ret;rw[b.o,l.o];exact⟨rfl,m.o _ (λh=>by rw[z.o]at h;cases h) (by decide+kernel) (by decide+kernel)⟩
    ·go_enter aZ,aW;go_wp2;go_ret;rw[b.o,l.o];exact⟨rfl,m.o _ (λh=>by rw[z.o]at h;cases h) O O⟩
   ·have B:v=st.14:=H.o rfl;have a5:=Hl.o rfl;by_cases S:v=0
    ·have y:we=14:=by rw[p.o,if_neg oD,if_neg n,if_pos ⟨rfl,O⟩]
     subst y;have b:Hid (ws={st with down:=ao}):=Aa (by rw[HS.o,if_neg oD,if_pos rfl]);clear B;subst S;go_enter aZ,aW;go_wp2;go_ret;rw[b.o];exact⟨rfl,U.o⟩
    ·have y:we=0:=by rw[p.o,if_neg oD,if_neg n,if_neg O]
     subst y;have b:Hid (ws={st with used:=st.11+1,left:=st.14-1}):=Aa (by rw[HS.o,if_pos rfl]);rw[l.o]at m;have a7:(v==0)=am:=by simpa using S
     have V:=Aa (m.o (v-1) (λ_=>by rw[B]) O O);have a6:0<v:=O;clear B;go_enter aZ,aW;go_wp2;go_ret;rw[b.o,l.o];exact⟨rfl,V.o⟩
 ·have y:we=6:=by rw[p.o,if_pos rfl]
  subst y;have b:Hid (ws=st):=Aa (by rw[HS.o,if_neg oD,if_neg oD]);go_enter aZ,aW;go_wp2;go_ret;rw[b.o];exact⟨rfl,same.o⟩
theorem OZ{L:Nat->Prop}{R M:Nat}{b:Array au}{P P1:Nat->Prop}{g:AN->Option Nat}{nv:au}{uv dv:Nat->au}(st:AV)(u:Nat)(w:aq)(h:RO L R M b P P1 g nv uv dv st w)(j:u<5)(o:∀l,(st.Q l).length<=1000):aC T 54 #[C (G ⟨R,0,I⟩),Z J (u:Int)] w λe w'=>e=ab (aI #[])/\Only w w' P1/\∃P' P1',RO L R M (b.setIfInBounds (7+u) (aa I 0 0)) P' P1' g nv (Ae uv u (aa I 0 0)) dv (A8 st u) w'/\Only w w' (λx=>¬L x):=by
 have sz:=h.s.size;refine(Fd u (uv u) w h.s j o (λi hi=>h.s.nil _ (h.wf.3 i hi)) (h.u.3 u j)).mono ?_;rintro e w' ⟨rfl,f⟩;have a:∀k,k≠7+u->(b.setIfInBounds (7+u) (aa I 0 0))[k]?=b[k]?:=λk n=>by rw[F,if_neg O]
 refine⟨rfl,f.ev,h.after (st':=A8 st u) (f.more h.4) ((h.u.kept f.ev h.3).nilU j (by rw[F,if_pos rfl,if_pos O]) a) (λx hx=>ai (h.5 x ?_))
  (h.9.of (λk n=>a k O) ⟨rfl,rfl,rfl,rfl,rfl,rfl,rfl,rfl,rfl⟩) ⟨h.wf.1,h.wf.2,h.wf.3,λv m d c=>?_⟩⟩
 ·rcases hx with hx|⟨v,m,hx⟩|hx
  ·exact ai hx
  ·by_cases q:v=u
   ·subst q;rw[Ad]at hx;simp[av]at hx
   ·rw[Ac _ _ q]at hx;exact ax (ai ⟨v,m,hx⟩)
  ·exact ax (ax hx)
 ·by_cases q:v=u
  ·subst q;rw[show(A8 st v).4 v=[]from Ad _ _ _]at c;cases c
  ·rw[show(A8 st u).4 v=st.4 v from Ac _ _ q]at c;exact h.wf.4 v m d c
def AZ(Q:AN->List Pl)(l:List Dd):AN->List Pl:=l.foldl (λQ d=>if d.1=ao then As Q d.3 (Q d.3++[⟨d.m,-1,am⟩])else Q) Q
def By(Q:AN->List Pl)(l:List Dd):AN->List Pl:=l.foldl (λQ d=>if d.1=ao then Q else As Q d.3 (D6 d.m.1 (Q d.3))) Q
def AJ(b:Int)(l:List Dd):Int:=l.foldl (λb d=>if d.1=ao then max b (d.m.1/4+1)else b) b
theorem Et(Q:AN->List Pl)(l:List Dd)(d:Dd):AZ Q (l++[d])=if d.1=ao then As (AZ Q l) d.3 (AZ Q l d.3++[⟨d.m,-1,am⟩])else AZ Q l:=by simp[AZ]
theorem F6(Q:AN->List Pl)(l:List Dd)(d:Dd):By Q (l++[d])=if d.1=ao then By Q l else As (By Q l) d.3 (D6 d.m.1 (By Q l d.3)):=by simp[By]
theorem F4(b:Int)(l:List Dd)(d:Dd):AJ b (l++[d])=if d.1=ao then max (AJ b l) (d.m.1/4+1)else AJ b l:=by simp[AJ]
theorem Mt(l:List Dd)(Q:AN->List Pl)(x:AN):(AZ Q l x).length<=(Q x).length+l.length:=by
 induction l generalizing Q with
 |nil=>exact Nat.le_refl _
 |cons d r ih=>
  have e:AZ Q (d::r)=AZ (if d.1=ao then As Q d.3 (Q d.3++[⟨d.m,-1,am⟩])else Q) r:=rfl;rw[e];have h:=ih (if d.1=ao then As Q d.3 (Q d.3++[⟨d.m,-1,am⟩])else Q);have a:((if d.1=ao then As Q d.3 (Q d.3++[⟨d.m,-1,am⟩])else Q) x).length<=(Q x).length+1:=by
   split
   ·unfold As;split
    ·rename_i e;rw[e];simp
    ·omega
   ·omega
  simp only[bt];omega
theorem Mu(l:List Dd)(Q:AN->List Pl)(x:AN):(By Q l x).length<=(Q x).length:=by
 induction l generalizing Q with
 |nil=>exact Nat.le_refl _
 |cons d r ih=>
  have e:By Q (d::r)=By (if d.1=ao then Q else As Q d.3 (D6 d.m.1 (Q d.3))) r:=rfl;rw[e];refine ay (ih _) ?_;split
  ·exact ah _
  ·unfold As;split
   ·rename_i e;rw[e];exact List.length_filter_le _ _
   ·exact ah _
theorem JL(l:List Dd)(j:Nat)(d:Dd)(h:l[j]?=G d):l.take (j+1)=l.take j++[d]:=by rw[aF,h];rfl
theorem Se{l:List Dd}{n:Nat}(h:l.length=n):l.take n=l:=aj O
def L0(st:AV)(u:Int):Int:=if B2 u 0 4=ao then(if st.4 u.toNat=[]then 8 else CG st)else 2
def Yf(st:AV)(n:Nat):AV:={A8 (Ba st) n with Q:=By (AZ (Gu (Az n ao) st.Q) (st.4 n)) (st.4 n),best:=AJ st.7 (st.4 n)}
theorem KP(L:Nat->Prop)(R:Nat)(st:AV)(u:Int)(w:aq)(h:Rx L R st w)(hu:0<=st.11/\st.11<=1000000)(h9:st.13=ao->0<=st.14)(hl:∀l,(st.Q l).length+(st.4 u.toNat).length<=1000)(c1:∀u,(st.4 u).length<=1000)(b6:∀d∈st.4 u.toNat,0<=d.m.1/\d.m.1<=1099511627776)(h8:0<=st.7)(hF:∀k l,Fit (AZ (Gu (Az u.toNat ao) st.Q) ((st.4 u.toNat).take k) l)):aC T 59 #[C (G ⟨R,0,I⟩),Z J u] w λe w'=>e=ab (Z J (L0 st u))/\Rx L R (if L0 st u=0 then Yf st u.toNat else if L0 st u=14 then Ba st else st) w'/\Only w w' (λx=>¬L x):=by
 have HE:Hid (L0 st u=if B2 u 0 4=ao then(if st.4 u.toNat=[]then 8 else CG st)else 2):=Aa rfl;obtain⟨rs,a1⟩:∃q,Hid ((if L0 st u=0 then Yf st u.toNat else if L0 st u=14 then Ba st else st)=q):=⟨_,rfl⟩;rw[a1.o];generalize L0 st u=re at HE a1⊢;have HX:=Aa h;have HI:Hid (∀W,aC T 120 #[Z J u,Z J 0,Z J 4] W λe w'=>e=ab (aM (B2 u 0 4))/\W=w'):=Aa (λW=>(Dt u 0 4 W).mono (λe w' h=>⟨h.1,h.2.symm⟩));obtain⟨bi,d4⟩:∃b,Hid (B2 u 0 4=b):=⟨_,rfl⟩;rw[d4.o]at HI HE;cases bi
 ·have he:re=2:=by rw[HE.o,if_neg oD]
  subst he;have S:Hid (rs=st):=Aa (by rw[<-a1.o,if_neg oD,if_neg oD]);clear h hl c1 hF b6;go_enter bQ,bL;go_wp2_with(go_at_call 120;go_must(refine(HI.o _).mono ?_);rintro e w1 ⟨rfl,rfl⟩;refine ac ?_);refine Aa ?_;go_wp2;go_ret;rw[S.o];exact⟨rfl,HX.o,aJ _ _⟩
 obtain⟨n,i1⟩:∃n:Nat,u=(n:Int):=⟨u.toNat,by have:=d4.o;simp[B2]at this;omega⟩;subst i1;rw[aA]at hl hF b6;simp only[aA]at HE a1;have a6:n<5:=by have:=d4.o;simp[B2]at this;omega
 have j1:(n:Int)<5:=O;have j0:(0:Int)<=(n:Int):=O;obtain⟨M,cs,P,P1,g,nv,uv,dv,ho⟩:=h.open;have HWr:=Aa (CT st w ho hu h9);obtain⟨a,k,hv⟩:=Ah (ho.u.4 n a6);have c7:=(ho.s.cell (7+n)).trans (ho.u.3 n a6);rw[hv]at c7;obtain⟨z,Hz⟩:∃z,Hid ((st.4 n).length=z):=⟨_,rfl⟩;rw[Hz.o]at c7;have j3:z<=1000:=by rw[<-Hz.o];exact c1 n
 by_cases h0:z=0
 ·have hd:st.4 n=[]:=aX.1 (by rw[Hz.o];exact h0);have he:re=8:=by rw[HE.o];simp[hd]
  subst he;have S:Hid (rs=st):=Aa (by rw[<-a1.o,if_neg oD,if_neg oD]);subst h0;clear hd h ho hv hl c1 hF b6 HWr;go_enter bQ,bL;go_wp2_with(go_at_call 120;go_must(refine(HI.o _).mono ?_);rintro e w1 ⟨rfl,rfl⟩;refine ac ?_);refine Aa ?_;go_wp2;go_ret;rw[S.o];exact⟨rfl,HX.o,aJ _ _⟩
 have hd:¬st.4 n=[]:=λe=>h0 (by rw[<-Hz.o,e];rfl);have j2:((z:Int)==0)=am:=by rw[beq_eq_false_iff_ne];omega
 obtain⟨we,d5⟩:∃q,Hid (CG st=q):=⟨_,rfl⟩;have he:re=we:=by rw[HE.o];simp[hd,d5.o]
 subst he;rw[d5.o]at HWr;have HL:=Aa hl;have h3:=Aa hF;have c8:=Aa b6;have HO:=Aa ho;have Hv:=Aa hv;clear h ho hv hl c1 hF b6 hd h0 HE;go_enter bQ,bL;go_wp2_with(go_at_call 120;go_must(refine(HI.o _).mono ?_);rintro e w1 ⟨rfl,rfl⟩;refine ac ?_);refine Aa ?_;go_wp2_with(go_at_call 44;go_must(refine HWr.o.mono ?_);rintro e w2 ⟨rfl,B⟩;refine ac ?_);refine Aa ?_;by_cases b7:re=0;case neg=>
  have i3:(re==0)=am:=by simpa using b7
  have h5:Hid (Rx L R rs w2/\Only w w2 (λx=>¬L x)):=Aa (by
   obtain⟨f7,P2,P3,q1,q2⟩:=B;refine⟨?_,q2⟩;rw[<-a1.o,if_neg b7];split
   ·exact q1.shut
   ·rename_i h14;have e:Ba st=st:=by unfold Ba;rw[d5.o,if_neg b7,if_neg h14]
    have q3:=q1.shut;rw[e]at q3;exact q3);clear B b7 HWr;go_wp2;go_ret;exact⟨rfl,h5.o⟩
 subst b7;have S:Hid (rs=Yf st n):=Aa (by rw[<-a1.o,if_pos rfl]);obtain⟨e1,e2,e3,e4,e5,e6,e7,e8,e9,i4⟩:=Fi st;obtain⟨f7,P2,P3,B,f8⟩:=B;have HT:=Aa (OZ (Ba st) n w2 B a6 (λl=>by rw[e2];have:=HL.o l;omega));have c5:Hid (∀(j:Nat) d,(st.4 n)[j]?=G d->∃b,a=G ⟨b,0,I⟩/\b<w2.1.size/\(∃c,w2.1[b]?=G (aB c 202 (0,0)))/\∀i,i<7->w2.cell? ⟨b,j*7+i,I⟩=(LY g d)[i]?):=Aa (λj d hj=>by
  have g9:=(al.1 hj).1;have q:=B.u.4 n a6;rw[Hv.o,e4]at q;rcases q.2 with⟨q1,q2⟩|⟨b,cap,cur,q1,hb,hg,-⟩
  ·omega
  ·cases q1;exact⟨b,rfl,(Y.1 hg).1,⟨_,hg⟩,λi hi=>(q.cellAt (j*7+i) O).trans (Vs g _ j d hj i hi)⟩);have c4:Hid (∀d∈st.4 n,∃b,g d.3=G b):=Aa (λd hd=>B.wf.4 n a6 d (by rw[e4];exact hd));have h2:=Aa B.3;have f6:Hid (∀b o n' c,uv n=aa (G ⟨b,o,I⟩) n' c->¬P3 b):=Aa (λb o n' c e=>B.3 b (ax (ai ⟨n,a6,by rw[e];rfl⟩)));clear HWr B;go_wp2_with(go_at_call 54;go_must(refine HT.o.mono ?_);rintro e w3 ⟨rfl,b4,P4,P5,a7,f9⟩;refine ac ?_);refine Aa ?_;obtain⟨P6,g1,g2,g3,g4,g5⟩:=a7.s.freshT;have c9:∀x,P6 x->P5 x:=λx hx=>(g1.2 x hx).elim (λy=>y) (λy=>by have:=g2 x hx;omega);have a9:Hid (∀W,Only w3 W P6->∀(j:Nat) d,(st.4 n)[j]?=G d->∃b,a=G ⟨b,0,I⟩/\b<W.1.size/\∀i,i<7->W.cell? ⟨b,j*7+i,I⟩=(LY g d)[i]?):=Aa (λW hW j d hj=>by obtain⟨b,q1,q2,⟨c,q3⟩,q4⟩:=c5.o j d hj;have n3:¬P3 b:=f6.o b 0 (st.4 n).length k (by rw[Hv.o,q1]);have q5:w3.1[b]?=G (aB c 202 (0,0)):=(b4.5 b q2 n3).trans q3;have n6:¬P6 b:=g3 b c 202 q5 oD oD oD;exact⟨b,q1,az q2 (ay b4.4 hW.4),λi hi=>((hW.cell (az q2 b4.4) n6).trans (b4.cell q2 n3)).trans (q4 i hi)⟩);obtain⟨t,c6⟩:∃c,Hid (f7.setIfInBounds (7+n) (aa I 0 0)=c):=⟨_,rfl⟩;rw[c6.o]at a7;obtain⟨N,HN⟩:∃q,Hid ((A8 (Ba st) n).N=q):=⟨_,rfl⟩;have g0:(A8 (Ba st) n).Q=Gu (Az n ao) st.Q:=by show Gu (Az n ao) (Ba st).Q=_;rw[e2]
 obtain⟨Q3,b8⟩:∃q,Hid (Gu (Az n ao) st.Q=q):=⟨_,rfl⟩;have d6:=g5 w3 (ad _ _);rw[c6.o,g0,b8.o,HN.o]at d6;have c13:t[13]?=G (Z J st.7):=by rw[a7.9.3];show G (Z J (Ba st).7)=_;rw[e8]
 have j4:t.size=30:=a7.s.size;have e0:Hid (Rs w3 P6 R M (t.setIfInBounds 13 (Z J (AJ st.7 ((st.4 n).take 0)))) g (AZ Q3 ((st.4 n).take 0)) N w3):=Aa (by show Rs w3 P6 R M (t.setIfInBounds 13 (Z J st.7)) g Q3 N w3;rw[JD c13];exact d6);have a8:Hid (∀j l,(AZ Q3 ((st.4 n).take j) l).length<=1000):=Aa (λj l=>by
  have q1:=Mt ((st.4 n).take j) Q3 l;have q2:((st.4 n).take j).length<=(st.4 n).length:=by rw[aD];omega
  have q3:(Q3 l).length<=(st.Q l).length:=by rw[<-b8.o];exact EY n ao _
  have:=HL.o l;omega);have c3:Hid (∀j l,Fit (AZ Q3 ((st.4 n).take j) l)):=Aa (λj l=>by rw[<-b8.o];exact h3.o j l);have c2:Hid (∀j,0<=AJ st.7 ((st.4 n).take j)/\AJ st.7 ((st.4 n).take j)<=max st.7 1000000000000):=Aa (λj=>by
  have i2:∀(l:List Dd) (b:Int),0<=b->(∀d∈l,0<=d.m.1/\d.m.1<=1099511627776)->0<=AJ b l/\AJ b l<=max b 1000000000000:=by
   intro l;induction l with
   |nil=>intro b hb _;exact⟨hb,by show b<=_;omega⟩
   |cons d r ih=>intro b hb hd;have e:AJ b (d::r)=AJ (if d.1=ao then max b (d.m.1/4+1)else b) r:=rfl;rw[e];have i6:=hd d (bI ..);have q:=ih (if d.1=ao then max b (d.m.1/4+1)else b) (by split<;>omega) (λx hx=>hd x (bF _ hx));refine⟨q.1,Int.le_trans q.2 ?_⟩;split<;>omega
  exact i2 _ _ h8 (λd hd=>c8.o d (List.mem_of_mem_take hd)));have f:=Aa a7;have h4:=Aa (f8.thenL f9);have b2:=Aa c9;clear d6 g1 g2 g3 g4 g5 a7 f8 f9 b4 c9 HT c5 f6 h2 g0 c13;go_wp2;go_loopw[33] (λi W=>∃j:Nat,j<=z/\i=Z J j/\Hid (Rs w3 P6 R M (t.setIfInBounds 13 (Z J (AJ st.7 ((st.4 n).take j)))) g (AZ Q3 ((st.4 n).take j)) N W)) (λi _=>z-(aK i).toNat);case atStart=>exact⟨0,aH _,rfl,e0⟩
 case round=>
  clear e0;obtain⟨j,hj,rfl,hR⟩:=hrel;by_cases g9:j<z
  ·obtain⟨d,A⟩:∃d,(st.4 n)[j]?=G d:=⟨_,ag (by rw[Hz.o];exact g9)⟩;obtain⟨b0,rfl,h7,a2⟩:=a9.o wr hR.o.ev j d A;obtain⟨b,a3⟩:=c4.o d (bd A);have b5:LY g d=[aM d.1,Z J d.m.1,Z J d.m.2,E d.m.3,E d.m.4,Z J d.m.5,C (G ⟨b,0,I⟩)]:=by unfold LY;rw[a3];rfl
   rw[b5]at a2;obtain⟨k0,k1,k2,k3,k4,k5,k6⟩:=DX a2;obtain⟨i8,i9⟩:=c8.o d (bd A);have a4:=Aa (JL (st.4 n) j d A);obtain⟨g7,g8⟩:=c2.o j;obtain⟨be,d3⟩:∃q,Hid (AJ st.7 ((st.4 n).take j)=q):=⟨_,rfl⟩;rw[d3.o]at hR g7 g8;obtain⟨V,hV⟩:∃V,wr.alloc (aB #[aM d.1,Z J d.m.1,Z J d.m.2,E d.m.3,E d.m.4,Z J d.m.5,C (G ⟨b,0,I⟩)] 202)=V:=⟨_,rfl⟩;have a5:ae wr.1.size wr V:=by rw[<-hV];exact(ad _ _).alloc (ah _) _
   have U:Blk V wr.1.size #[aM d.1,Z J d.m.1,Z J d.m.2,E d.m.3,E d.m.4,Z J d.m.5,C (G ⟨b,0,I⟩)] 202:=by rw[<-hV];exact Blk.new wr _ 202
   have h6:wr.1.size<V.1.size:=(Y.1 U).1;obtain⟨P7,f1,f2,f3,f4,f5⟩:=hR.o.freshT;have g6:¬P7 wr.1.size:=λhp=>by have:=f2 _ hp;omega
   have H:Hid (∀W,Only V W P7->(W.cell? ⟨wr.1.size,0,I⟩=G (aM d.1)/\W.cell? ⟨wr.1.size,1,I⟩=G (Z J d.m.1)/\W.cell? ⟨wr.1.size,2,I⟩=G (Z J d.m.2)/\W.cell? ⟨wr.1.size,3,I⟩=G (E d.m.3)/\W.cell? ⟨wr.1.size,4,I⟩=G (E d.m.4)/\W.cell? ⟨wr.1.size,5,I⟩=G (Z J d.m.5)/\W.cell? ⟨wr.1.size,6,I⟩=G (C (G ⟨b,0,I⟩)))):=Aa (λW hO=>by have q:Blk W wr.1.size #[aM d.1,Z J d.m.1,Z J d.m.2,E d.m.3,E d.m.4,Z J d.m.5,C (G ⟨b,0,I⟩)] 202:=(hO.5 _ h6 g6).trans U;refine⟨by simpa using q.cell 0,by simpa using q.cell 1,by simpa using q.cell 2,by simpa using q.cell 3,by simpa using q.cell 4,by simpa using q.cell 5,by simpa using q.cell 6⟩);obtain⟨y0,y1,y2,y3,y4,y5,y6⟩:=H.o V (aJ _ _);have HV:=Aa (f5 V a5);have d7:=Aa (f1.trans (Ev.below a5));have i5:R≠wr.1.size:=by have:=(Y.1 hR.o.here).1;omega
   obtain⟨pt,p⟩:∃q,Hid (d.1=q):=⟨_,rfl⟩;rw[p.o]at y0 H k0 hV;have d0:=Aa a3;clear a2 b5 U a5 f1 f2 f3 f4 f5 a3 g6 A;cases pt
   ·have a0:Hid (Rs w3 P6 R M (t.setIfInBounds 13 (Z J (AJ st.7 ((st.4 n).take (j+1))))) g (AZ Q3 ((st.4 n).take (j+1))) N V):=Aa (by rw[a4.o,F4,Et,if_neg (by rw[p.o];decide),if_neg (by rw[p.o];decide),d3.o];exact HV.o.anchor d7.o);clear HV H hR;go_wp2;go_roundw;case rel=>exact⟨j+1,O,by go_num,a0⟩
    case measure=>simp[aK];omega
   ·have d8:Hid (aC T 134 #[C (G ⟨b,0,I⟩),cj #[Z J d.m.1,Z J d.m.2,E d.m.3,E d.m.4,Z J d.m.5],Z J (-1)] V λe w'=>e=ab (aI #[])/\Rs V P7 R M (t.setIfInBounds 13 (Z J be)) g (As (AZ Q3 ((st.4 n).take j)) d.3 (AZ Q3 ((st.4 n).take j) d.3++[⟨d.m,-1,am⟩])) N w'):=Aa (Jz d.3 b d.m (-1) V HV.o d0.o (a8.o j d.3) (by have q:=c3.o (j+1) d.3;rw[a4.o,Et,if_pos p.o,AE]at q;exact q));clear hR;go_wp2_with(go_at_call 134;go_must(refine d8.o.mono ?_);rintro e w5 ⟨rfl,X⟩;refine ac ?_);refine Aa ?_;obtain⟨y0,y1,y2,y3,y4,y5,y6⟩:=H.o w5 X.ev;have c13:w5.cell? ⟨R,13,I⟩=G (Z J be):=by rw[X.cell 13,F,if_pos rfl,if_pos O]
    have f13:=X.free 13;have a0:Hid (Rs w3 P6 R M (t.setIfInBounds 13 (Z J (AJ st.7 ((st.4 n).take (j+1))))) g (AZ Q3 ((st.4 n).take (j+1))) N (w5.setCell ⟨R,13,I⟩ (Z J (max be (d.m.1/4+1)))).drew):=Aa (by rw[a4.o,F4,Et,if_pos p.o,if_pos p.o,d3.o];have q:=((X.set 13 (Z J (max be (d.m.1/4+1))) O).below (ad _ _).drew).anchor d7.o;rw[Array.setIfInBounds_setIfInBounds]at q;exact q);clear d8 X HV H;go_wp2;go_region;go_wp2;go_roundw;case rel=>exact⟨j+1,O,by go_num,a0⟩
    case measure=>simp[aK];omega
  ·obtain rfl:j=z:=O;have HA:Hid ((st.4 n).take j=st.4 n):=Aa (Se Hz.o);have b9:=hR.o;rw[HA.o]at b9;obtain⟨QP,d2⟩:∃q,Hid (AZ Q3 (st.4 n)=q):=⟨_,rfl⟩;obtain⟨b3,b1⟩:∃q,Hid (t.setIfInBounds 13 (Z J (AJ st.7 (st.4 n)))=q):=⟨_,rfl⟩;rw[d2.o,b1.o]at b9;have d9:=Aa b9;have d1:Hid (∀i l,(By QP ((st.4 n).take i) l).length<=1000):=Aa (λi l=>ay (Mu _ _ _) (by have q:=a8.o j l;rw[HA.o,d2.o]at q;exact q));clear b9 hR c3 c2 a8;go_wp2;go_loopw[60] (λi W=>∃i0:Nat,i0<=j/\i=Z J i0/\Hid (Rs w3 P6 R M b3 g (By QP ((st.4 n).take i0)) N W)) (λi _=>j-(aK i).toNat);case atStart=>exact⟨0,aH _,rfl,d9⟩
   case round=>
    clear d9;obtain⟨i0,i7,rfl,hR⟩:=hrel;by_cases h1:i0<j
    ·obtain⟨d,A⟩:∃d,(st.4 n)[i0]?=G d:=⟨_,ag (by rw[Hz.o];exact h1)⟩;obtain⟨b0,rfl,h7,a2⟩:=a9.o wr hR.o.ev i0 d A;obtain⟨b,a3⟩:=c4.o d (bd A);have b5:LY g d=[aM d.1,Z J d.m.1,Z J d.m.2,E d.m.3,E d.m.4,Z J d.m.5,C (G ⟨b,0,I⟩)]:=by unfold LY;rw[a3];rfl
     rw[b5]at a2;obtain⟨k0,k1,k2,k3,k4,k5,k6⟩:=DX a2;have a4:=Aa (JL (st.4 n) i0 d A);obtain⟨V,hV⟩:∃V,wr.alloc (aB #[aM d.1,Z J d.m.1,Z J d.m.2,E d.m.3,E d.m.4,Z J d.m.5,C (G ⟨b,0,I⟩)] 202)=V:=⟨_,rfl⟩;have a5:ae wr.1.size wr V:=by rw[<-hV];exact(ad _ _).alloc (ah _) _
     have U:Blk V wr.1.size #[aM d.1,Z J d.m.1,Z J d.m.2,E d.m.3,E d.m.4,Z J d.m.5,C (G ⟨b,0,I⟩)] 202:=by rw[<-hV];exact Blk.new wr _ 202
     have y0:=U.cell 0;have y1:=U.cell 1;have y6:=U.cell 6;simp at y0 y1 y6;have HV:=Aa (hR.o.below a5);obtain⟨pt,p⟩:∃q,Hid (d.1=q):=⟨_,rfl⟩;rw[p.o]at y0 k0 hV;have d0:=Aa a3;clear a2 b5 U a5 a3 A;cases pt
     ·have f0:=Aa (JA d.3 b d.m.1 V HV.o d0.o (d1.o i0 d.3));clear hR;go_wp2_with(go_at_call 135;go_must(refine f0.o.mono ?_);rintro e w5 ⟨⟨mg,ke,rfl⟩,X⟩;refine ac ?_);refine Aa ?_;have a0:Hid (Rs w3 P6 R M b3 g (By QP ((st.4 n).take (i0+1))) N w5):=Aa (by rw[a4.o,F6,if_neg (by rw[p.o];decide)];exact X);clear f0 X HV;go_wp2;go_roundw;case rel=>exact⟨i0+1,O,by go_num,a0⟩
      case measure=>simp[aK];omega
     ·have a0:Hid (Rs w3 P6 R M b3 g (By QP ((st.4 n).take (i0+1))) N V):=Aa (by rw[a4.o,F6,if_pos p.o];exact HV.o);clear HV hR;go_wp2;go_roundw;case rel=>exact⟨i0+1,O,by go_num,a0⟩
      case measure=>simp[aK];omega
    ·obtain rfl:i0=j:=O;have c0:=hR.o;rw[HA.o]at c0;have HF:Hid (Rx L R rs wr/\Only w wr (λx=>¬L x)):=Aa (by
      rw[S.o];have D:∀k,k≠13->b3[k]?=t[k]?:=λk hk=>by rw[<-b1.o,F,if_neg O]
      have sc:=f.o.9;obtain⟨q1,q2⟩:=f.o.fin (st':=Yf st n) (cs':=b3) (nv':=nv) (uv':=Ae uv n (aa I 0 0)) (dv':=dv) (g':=g) (by
       have q:=c0.more (λx hx=>f.o.4 x (b2.o x hx));rw[<-d2.o,<-b8.o,<-HN.o]at q;exact q) ((f.o.u.kept c0.ev (λk hk hp=>f.o.3 k hk (b2.o k hp))).same (λk hk=>D k O)) (λx hx=>ai (f.o.5 x hx))
       (by obtain⟨v,v1,v2⟩:=sc.9;exact⟨(D 0 O).trans sc.1,(D 12 O).trans sc.2,by rw[<-b1.o,F,if_pos rfl,if_pos O];rfl,λi hi=>(D _ O).trans (sc.4 i hi),λi hi=>(D _ O).trans (sc.5 i hi),(D 26 O).trans sc.6,(D 27 O).trans sc.7,(D 28 O).trans sc.8,v,(D 29 O).trans v1,v2⟩)
       ⟨f.o.wf.1,f.o.wf.2,f.o.wf.3,f.o.wf.4⟩;exact⟨q1,h4.o.thenL q2⟩);clear c0 hR;go_wp2;go_ret;exact⟨rfl,HF.o⟩
section
variable{L:Nat->Prop}{R M:Nat}{w w':aq}{P P1:Nat->Prop}{cs cs':Array au}{g g':AN->Option Nat}{st st':AV}{nv nv':au}{uv dv uv' dv':Nat->au}
theorem RO.doubt(h:RO L R M cs P P1 g nv uv dv st w){u:Nat}{d:Int}{W w5:aq}{v5:au}(A:u<4)(D:ae w.1.size w W)(hown:w5.ownsRow 0 3 1 v5 ((st.8 u).length+1) ((st.8 u).map (Z J)++[Z J d]))(V:W.grownBy w5 (dv u).ownBlock)(H:From W (dv u) v5):(w5.cell? ⟨R,14+u,I⟩=G (dv u)/\w5.frozen? ⟨R,14+u,I⟩=am/\Only w w5 (λx=>¬L x))/\∃P' P1',RO L R M (cs.setIfInBounds (14+u) v5) P' P1' g nv uv (Ae dv u v5) {st with db:=Ae st.8 u (st.8 u++[d])} (w5.setCell ⟨R,14+u,I⟩ v5)/\Only w (w5.setCell ⟨R,14+u,I⟩ v5) (λx=>¬L x):=by
 have sz:=h.s.size;have j:=h.below D;have l:Rs w P R M cs g st.Q st.N w5:=((h.s.more h.4).below D).row (t:=3) V oD oD oD (λk p=>⟨AD (j.u.7 u A) p,ai (h.5 k (ax (ax ⟨u,A,p⟩)))⟩);have a:∀k,k≠14+u->(cs.setIfInBounds (14+u) v5)[k]?=cs[k]?:=λk p=>by rw[F,if_neg O]
 have m:Only W w5 (λk=>(dv u).ownBlock=G k):=bn V (λk e=>e);have ne:∀k t,t≠3->(∃c,W.1[k]?=G (aB c t (0,0)))->¬(dv u).ownBlock=G k:=λk t S ⟨c,b⟩ e=>by obtain⟨c',i⟩:=AD (j.u.7 u A) e;rw[b]at i;injection i with i;injection i with _ i;exact S i
 have z:RU w5 R (cs.setIfInBounds (14+u) v5) st.3 st.4 (Ae st.8 u (st.8 u++[d])) g nv uv (Ae dv u v5):=by
  refine⟨(a 1 O).trans h.u.1,Ap j.u.2 (λc b=>m.5 c (j.u.lt (ai b)) (ne c 45 oD (AD j.u.2 b))),λv f=>(a _ O).trans (h.u.3 v f),λv f=>Ap (j.u.4 v f) (λc b=>m.5 c (j.u.lt (ax (ai ⟨v,f,b⟩))) (ne c 202 oD (AD (j.u.4 v f) b))),h.u.5,λv f=>?_,λv f=>?_,λv x c f hx o b=>?_⟩
  ·by_cases q:v=u
   ·subst q;rw[Ad,F,if_pos rfl,if_pos O]
   ·rw[Ac _ _ q];exact(a _ O).trans (h.u.6 v f)
  ·by_cases q:v=u
   ·subst q;rw[Ad,Ad,af,bx];exact hown
   ·rw[Ac _ _ q,Ac _ _ q];exact Ap (j.u.7 v f) (λc b=>m.5 c (j.u.lt (ax (ax ⟨v,f,b⟩))) (h.u.8 v u c f A q b))
  ·by_cases q:v=u
   ·subst q;rw[Ad]at b;rw[Ac _ _ (Ne.symm o)];rcases H c b with r|r
    ·exact h.u.8 v x c f hx o r
    ·intro B;have:=j.u.lt (ax (ax ⟨x,hx,B⟩));omega
   ·rw[Ac _ _ q]at b;by_cases X:x=u
    ·subst X;rw[Ad];intro B;rcases H c B with r|r
     ·exact h.u.8 v x c f hx q b r
     ·have:=j.u.lt (ax (ax ⟨v,f,b⟩));omega
    ·rw[Ac _ _ X];exact h.u.8 v x c f hx o b
 have U:∀x,Ck nv uv (Ae dv u v5) x->P x\/w.1.size<=x:=by
  rintro x (hx|hx|⟨v,f,hx⟩)
  ·exact ai (h.5 x (ai hx))
  ·exact ai (h.5 x (ax (ai hx)))
  ·by_cases q:v=u
   ·subst q;rw[Ad]at hx;exact(H x hx).imp (λy=>h.5 x (ax (ax ⟨v,f,y⟩))) (λy=>ay D.4 y)
   ·rw[Ac _ _ q]at hx;exact ai (h.5 x (ax (ax ⟨v,f,hx⟩)))
 refine⟨⟨(l.cell (14+u)).trans (h.u.6 u A),l.free (14+u),l.ev.mono (λx _ hp hx=>h.7 x hx hp)⟩,h.after (st':={st with db:=Ae st.8 u (st.8 u++[d])}) (l.set (14+u) v5 O) (z.kept (Only.set w5 R (14+u) v5) (λk p e=>?_)) U
  (h.9.of (λk p=>a k O) ⟨rfl,rfl,rfl,rfl,rfl,rfl,rfl,rfl,rfl⟩) ⟨h.wf.1,h.wf.2,h.wf.3,h.wf.4⟩⟩;obtain⟨c,t,b,S⟩:=z.cells p;have n:=l.here;unfold Blk at n;rw[<-e,b]at n;injection n with n;injection n with _ n;rcases S with rfl|rfl|rfl<;>cases n
theorem RO.setMd(h:RO L R M cs P P1 g nv uv dv st w){i:Nat}(hi:i<4)(c:Int):∃P' P1',RO L R M (cs.setIfInBounds (18+i) (Z J c)) P' P1' g nv uv dv {st with md:=Ae st.9 i c} (w.setCell ⟨R,18+i,I⟩ (Z J c))/\Only w (w.setCell ⟨R,18+i,I⟩ (Z J c)) (λx=>¬L x):=by
 have sz:=h.s.size;have a:∀k,k≠18+i->(cs.setIfInBounds (18+i) (Z J c))[k]?=cs[k]?:=λk d=>by rw[F,if_neg O]
 obtain⟨v,e,v2⟩:=h.9.9;exact h.after (st':={st with md:=Ae st.9 i c}) ((h.s.set (18+i) _ O).more h.4) ((h.u.kept (Only.set w R (18+i) _) (h.u.neR h.s.here)).same (λk d=>a k O)) (λx hx=>ai (h.5 x hx)) ⟨(a 0 O).trans h.9.1,(a 12 O).trans h.9.2,(a 13 O).trans h.9.3,λj b=>by
   by_cases q:j=i
   ·subst q;rw[F,if_pos rfl,if_pos O];show _=G (Z J (Ae st.9 j c j));rw[Ad]
   ·rw[a _ O];show _=G (Z J (Ae st.9 i c j));rw[Ac _ _ q];exact h.9.4 j b,λj b=>(a _ O).trans (h.9.5 j b),(a 26 O).trans h.9.6,(a 27 O).trans h.9.7,(a 28 O).trans h.9.8,v,(a 29 O).trans e,v2⟩ ⟨h.wf.1,h.wf.2,h.wf.3,h.wf.4⟩
theorem RO.setAr(h:RO L R M cs P P1 g nv uv dv st w){i:Nat}(hi:i<4)(c:Int):∃P' P1',RO L R M (cs.setIfInBounds (22+i) (Z J c)) P' P1' g nv uv dv {st with ar:=Ae st.ar i c} (w.setCell ⟨R,22+i,I⟩ (Z J c))/\Only w (w.setCell ⟨R,22+i,I⟩ (Z J c)) (λx=>¬L x):=by
 have sz:=h.s.size;have a:∀k,k≠22+i->(cs.setIfInBounds (22+i) (Z J c))[k]?=cs[k]?:=λk d=>by rw[F,if_neg O]
 obtain⟨v,e,v2⟩:=h.9.9;exact h.after (st':={st with ar:=Ae st.ar i c}) ((h.s.set (22+i) _ O).more h.4) ((h.u.kept (Only.set w R (22+i) _) (h.u.neR h.s.here)).same (λk d=>a k O)) (λx hx=>ai (h.5 x hx)) ⟨(a 0 O).trans h.9.1,(a 12 O).trans h.9.2,(a 13 O).trans h.9.3,λj b=>(a _ O).trans (h.9.4 j b),λj b=>by
   by_cases q:j=i
   ·subst q;rw[F,if_pos rfl,if_pos O];show _=G (Z J (Ae st.ar j c j));rw[Ad]
   ·rw[a _ O];show _=G (Z J (Ae st.ar i c j));rw[Ac _ _ q];exact h.9.5 j b,(a 26 O).trans h.9.6,(a 27 O).trans h.9.7,(a 28 O).trans h.9.8,v,(a 29 O).trans e,v2⟩ ⟨h.wf.1,h.wf.2,h.wf.3,h.wf.4⟩
end
def AC(m:Mg)(ids:List Int):List Mg:=ids.flatMap λid=>if m.1=id then [m]else []
def AU(a:List Mg)(ids:List Int):List Mg:=a.flatMap λm=>AC m ids
theorem FN(m:Mg)(ids:List Int)(id:Int):AC m (ids++[id])=AC m ids++if m.1=id then [m]else []:=by simp[AC]
theorem GM(a:List Mg)(ids:List Int)(m:Mg):AU (a++[m]) ids=AU a ids++AC m ids:=by simp[AU]
theorem Fo(m:Mg)(ids:List Int):(AC m ids).length<=ids.length:=by
 induction ids with
 |nil=>exact Nat.le_refl _
 |cons x r ih=>
  have e:AC m (x::r)=(if m.1=x then [m]else [])++AC m r:=by simp[AC]
  rw[e,af,bt];split<;>simp<;>omega
theorem Jp(a:List Mg)(ids:List Int):(AU a ids).length<=a.length*ids.length:=by
 induction a with
 |nil=>simp[AU]
 |cons x r ih=>
  have e:AU (x::r) ids=AC x ids++AU r ids:=by simp[AU]
  have:=Fo x ids;rw[e,af,bt,Nat.succ_mul];omega
def J1(st:AV)(far:Int):Int:=if A0 st.5 far=ao then(if st.12=ao then 6 else if st.8 far.toNat=[]then(if Af bp (Aw (st.Q (aG far.toNat)))=[]then 8 else CG st)else 0)else 2
def LM(st:AV)(i:Nat):AV:=if st.8 i=[]then{Ba st with db:=Ae st.8 i (((Af bp (Aw (st.Q (aG i)))).take 3).map Mg.id),md:=Ae st.9 i (st.9 i+1)}else st
def WK(L:Nat->Prop)(R:Nat)(st:AV)(far:Int)(w:aq)(e:Ending)(w':aq):Prop:=Only w w' (λx=>¬L x)/\((J1 st far≠0/\e=ab (aI #[Z J 0,aa I 0 0,Z J (J1 st far)])/\Rx L R (if J1 st far=14 then Ba st else st) w')\/(J1 st far=0/\Rx L R (LM st far.toNat) w'/\∃v',e=ab (aI #[Z J ((LM st far.toNat).9 far.toNat),v',Z J 0])/\w'.ownsRow w.1.size 84 5 v' (AU (Af aO (Aw (st.Q (aG far.toNat)))) ((LM st far.toNat).8 far.toNat)).length (AS (AU (Af aO (Aw (st.Q (aG far.toNat)))) ((LM st far.toNat).8 far.toNat)))))
def Zp(L:Nat->Prop)(H D:Nat)(st:BM)(s:ByteArray)(d:Dk)(w:aq)(e:Ending)(w':aq):Prop:=(CW st.6 s≠0/\e=ab (ck 23 (Z J (CW st.6 s)))/\ae w.1.size w w')\/(CW st.6 s=0/\∃W,ae w.1.size w W/\Mb L H D st (DN s) (Y5 st s) d W e w')
theorem Q7(L:Nat->Prop)(H D:Nat)(st:BM)(s:ByteArray)(d:Dk)(w:aq)(h:Hx L H D st w)(B:DB w D d)(a0:¬L D)(hk:Fy d st.k)(hL:Lay w)(Q:An st.6)(hr:∀x∈st.6,AM x=ao):aC T 55 #[C (G ⟨H,0,I⟩),E s] w (Zp L H D st s d w):=by
 generalize hPost:Zp L H D st s d w=Post;have g:=Aa hPost;clear hPost;have t:Hid (CW st.6 s=0->(∀x∈s.1.1,x≠58/\x≠10)/\s.size<=1000):=Aa (λf=>by
  unfold CW at f;cases hh:AK st.6 s with
  |none=>rw[hh]at f;simp at f
  |some y=>obtain⟨q1,q2⟩:=Jh hh;have q:=Fc (hr y q1);rw[<-q2];exact⟨q.2,q.4.1⟩);have m:Hid (∀W,ae w.1.size w W->CW st.6 s=0->aC T 42 #[C (G ⟨H,0,I⟩),cj #[Z J 1,E s,E ⟨#[]⟩,Z J 0,Z J 0,aa I 0 0,aa I 0 0,aa I 0 0,aa I 0 0]] W λe w'=>(∃v,e=ab v)/\Hid (Post e w')):=Aa (λW N f=>(VP L H D st s d W (h.below N) ⟨(N.5 D B.lt).trans B.1,B.2⟩ a0 hk (hL.on (N.mono hL.5)) Q (t.o f).1 (t.o f).2).mono (λe w' q=>by
  refine⟨?_,Aa ?_⟩
  ·rcases q with⟨_,_,rfl,_⟩|⟨_,_,_,_,_,_,_,⟨_,rfl,_⟩|⟨_,rfl,_⟩⟩<;>exact⟨_,rfl⟩
  ·rw[<-g.o];exact ax ⟨f,W,N,q⟩));have p:Hid (∀W,CW st.6 s≠0->ae w.1.size w W->Post (ab (ck 23 (Z J (CW st.6 s)))) W):=Aa (λW f hB=>by rw[<-g.o];exact ai ⟨f,rfl,hB⟩);obtain⟨M,cs,P,up,ut,dv,n,h2,h3,h4,h5,h6,h7,h8,h9,S,U,V,X⟩:=h;obtain⟨pre,post,rest,hc,A,z⟩:=h7;have u:NB w H 118 6 pre post st.6 rest:=⟨by rw[<-hc];exact n.here,A,z⟩;have l:=Aa (FC H 118 pre post st.6 rest w u Q hr);have j:Hid (∀b r W,w.1.size<=b->NB W b 107 0 [] [] st.6 r->ae w.1.size w W->aC T 106 #[C (G ⟨b,0,I⟩),E s] W λe w'=>e=ab (I2 (CW st.6 s))/\ae w.1.size w w'):=Aa (λb r W hb hN hB=>(My b 107 0 [] [] st.6 r s W hN Q).mono (λe w' q=>⟨q.1,BG hB q.2.2 hb⟩));clear n h2 h3 h4 h5 h6 h8 h9 S U V X u hc A z B hk hL Q hr;obtain⟨er,R⟩:∃q,Hid (CW st.6 s=q):=⟨_,rfl⟩;rw[R.o]at m j p;go_enter func55,ntmps55;go_wp2_with(go_at_call 40;go_must(refine l.o.mono ?_);rintro e w1 ⟨b,r,rfl,n⟩;refine ac ?_);refine Aa ?_;have c:=Aa (j.o b r w1 n.o.1 n.o.2.1 n.o.2.2);by_cases f:er=0
 ·subst f;have a:Hid (aC T 106 #[C (G ⟨b,0,I⟩),E s] w1 λe w'=>e=ab .nilIface/\ae w.1.size w w'):=c;clear j c l;go_wp2_with(go_at_call 106;go_must(refine a.o.mono ?_);rintro e w2 ⟨rfl,i⟩;refine ac ?_);refine Aa ?_;have HW:=Aa (m.o w2 i trivial);clear m i a;go_wp2_with(go_at_call 42;go_must(refine HW.o.mono ?_);rintro e w3 ⟨⟨v,rfl⟩,hp⟩;refine ac ?_);refine Aa ?_;go_wp2;exact hp.o
 ·have a:Hid (aC T 106 #[C (G ⟨b,0,I⟩),E s] w1 λe w'=>e=ab (ck 23 (Z J er))/\ae w.1.size w w'):=Aa (c.o.mono (λe w' q=>⟨by rw[q.1];unfold I2;rw[if_neg f],q.2⟩));clear j c l;go_wp2_with(go_at_call 106;go_must(refine a.o.mono ?_);rintro e w2 ⟨rfl,i⟩;refine ac ?_);refine Aa ?_;have HF:=Aa (p.o w2 f i);clear a i;go_wp2;exact HF.o
theorem Nr(a:Option Addr)(cap base:Nat)(b:List (List UInt8))(w:aq)(r:b.length<=1000000)(hown:w.ownsRow base 9 1 (aa a b.length cap) b.length (b.map bj)):aC T 138 #[aa a b.length cap] w λe w'=>e=ab (aI #[])/\w'.ownsRow base 9 1 (aa a b.length cap) b.length ((b.mergeSort λx y=>aS (x<=y)).map bj)/\w.grownBy w' (aa a b.length cap).ownBlock:=by
 have HC:Hid (aC T 155 #[aa a b.length cap] w λe w'=>e=ab (aI #[])/\Hid (w'.ownsRow base 9 1 (aa a b.length cap) b.length ((b.mergeSort λx y=>aS (x<=y)).map bj)/\w.grownBy w' (aa a b.length cap).ownBlock)):=by
  rcases hown.2 with⟨c,i⟩|⟨g,h,cur,c,j,d,k,m,p,q⟩
  ·injection c with c h2 h3;have e:b=[]:=bf h2;subst e;refine Aa ((AnyM.slices_Sort_string_none cb a cap w).mono ?_);rintro e w' ⟨rfl,rfl⟩;exact⟨rfl,Aa ⟨by simpa using hown,⟨rfl,rfl,rfl,ah _,λ_ _ _=>rfl⟩⟩⟩
  ·cases c;refine Aa ((AnyM.slices_Sort_string cb g 0 cap b w (holds_of_block (cur:=cur) d (by simpa using q)) (Y.1 d).1 O).mono ?_);rintro e w' ⟨rfl,n,os,rfl⟩;exact⟨rfl,Aa ⟨ownsRow_sorted (by rw[bC]) j d k m p,grownBy_sorted _⟩⟩
 clear hown;go_enter func138,ntmps138;go_wp2_with(go_at_call 155;go_must(refine HC.o.mono ?_);rintro e w1 ⟨rfl,i⟩;refine ac ?_);refine Aa ?_;go_wp2;go_end0;exact⟨rfl,i.o⟩
structure KLr(w:aq)(M n:Nat)(D:ci Unit)(f:ByteArray->Option Nat)(l:au)(wr:aq)(left:Lit->Bool)(cnt:Nat)(ys:List (List UInt8)):Prop where
 rg:wr.ranges T 9 AP M w.1.size n D left cnt
 row:wr.ownsRow (w.1.size+1) 9 1 l ys.length (ys.map bj)
 nd:ys.Nodup
 mem:∀x,x∈ys↔f ⟨x.toArray⟩≠I/\left (bk x)=am
 len:ys.length+cnt<=bA D
 bel:ae w.1.size w wr
 ml:M<w.1.size
def Zl(w:aq)(M n:Nat)(D:ci Unit)(f:ByteArray->Option Nat)(l:au)(wr:aq):Prop:=∃left cnt ys,KLr w M n D f l wr left cnt ys
section
variable{w w1 wr w2 w5:aq}{M n:Nat}{D:ci Unit}{f:ByteArray->Option Nat}{l v5:au}{left:Lit->Bool}{cnt cnt2:Nat}{ys:List (List UInt8)}
theorem KLr.start(c:∀s b,f s=G b->bT D (bk s.1.1)=ao)(j:M<w.1.size)(m:w1.ranges T 9 AP M w.1.size n D (bT D) (bA D))(a:w.grownBy w1 I):KLr w M n D f (aa I 0 0) w1 (bT D) (bA D) []:=by
 refine⟨m,aw _ _ _ _,List.nodup_nil,λx=>?_,oS,⟨a.1,a.2,a.3,a.4,λk i=>a.5 k i oS⟩,j⟩;constructor
 ·intro h;cases h
 ·rintro⟨h,g⟩;cases e:f ⟨x.toArray⟩with
  |none=>exact absurd e h
  |some b=>have d:=c _ _ e;rw[GH,g]at d;cases d
theorem KLr.row2(h:KLr w M n D f l wr left cnt ys)(b:wr.grownBy w2 (G w.1.size)):w2.ownsRow (w.1.size+1) 9 1 l ys.length (ys.map bj):=Ap h.2 (λc a=>b.5 c (h.2.lt c a).2 (λe=>by have:=(h.2.lt c a).1;injection e with e;omega))
theorem KLr.step(h:KLr w M n D f l wr left cnt ys)(t:DQ D f){x:List UInt8}{kl:Lit}{Q:ci Unit}(i:keyOf T 9 (bj x)=G kl)(q:left kl=ao)(p:∀zd,D.atKey kl zd=Q)(j:w2.ranges T 9 AP M w.1.size n D (λz=>left z&&!z.sameKey kl) cnt2)(A:cnt2<cnt)(d:wr.grownBy w2 (G w.1.size))(U:Obj)(B:w5.ownsRow (w.1.size+1) 9 1 v5 (ys.length+1) (ys.map bj++[bj x]))(c:(w2.alloc U).grownBy w5 l.ownBlock):KLr w M n D f v5 w5 (λz=>left z&&!z.sameKey kl) cnt2 (ys++[x]):=by
 obtain⟨S,ex,rfl,N⟩:=Maps.keyOf_str bR i;obtain rfl:=encStr_inj ex;have g:bT D (bk x)=ao:=Maps.has_true_of_atKey p;have v:f ⟨x.toArray⟩≠I:=t.2 ⟨x.toArray⟩ (by simpa using g);have H:=j.lt;have R:w.1.size<=wr.1.size:=h.6.4;have L:=d.4;have P:∀k,k<=w.1.size->¬G k=l.ownBlock:=λk m e=>by have:=(h.2.lt k e.symm).1;omega
 have o:∀k,k<=w.1.size->w5.1[k]?=w2.1[k]?:=λk m=>by rw[c.5 k oO (P k m)];exact ba _ _ k O
 have r:x∉ys:=λhx=>by have:=((h.4 x).1 hx).2;rw[q]at this;cases this
 refine⟨Gp j (o M (by have:=h.7;omega)) (o _ (ah _)),by rw[af,bx];exact B,?_,λy=>?_,?_,?_,h.7⟩
 ·rw[List.nodup_append];refine⟨h.3,oS,λa u b s=>?_⟩;rw[aV]at s;subst s;exact λe=>r (e▸u)
 ·rw[bz,aV,h.4 y,BT];by_cases e:y=x
  ·subst e;simp[v]
  ·have:(y==x)=am:=by simpa using e
   simp[this,e]
 ·have:=h.5;simp;omega
 ·refine⟨?_,?_,?_,?_,λk m=>?_⟩
  ·rw[c.1];exact d.1.trans h.6.1
  ·rw[c.2];exact d.2.trans h.6.2
  ·rw[c.3];exact d.3.trans h.6.3
  ·have:=c.4;simp at this;omega
  ·rw[o k O,d.5 k O (λe=>by injection e with e;omega)];exact h.6.5 k m
end
theorem Wp(L:Nat->Prop)(R:Nat)(st:AV)(w:aq)(h:Rx L R st w)(hl:∀l,(st.Q l).length<=1000)(hN:st.N<1000000):aC T 67 #[C (G ⟨R,0,I⟩)] w λe w'=>∃v v',e=ab v'/\Hid (Hu (λs=>st.Q (aE s)) v/\w'.ownsRow w.1.size 84 5 v' (BR (λs=>st.Q (aE s)) v).length (AS (BR (λs=>st.Q (aE s)) v))/\ae w.1.size w w'):=by
 obtain⟨M,cs,P,P1,g,nv,uv,dv,h⟩:=h.open;obtain⟨n,vs,B,h2,h3⟩:=h.s;obtain⟨A,HA⟩:∃A:ByteArray->List Pl,Hid ((λs=>st.Q (aE s))=A):=⟨_,rfl⟩;have b1:Hid (∀s,st.Q (aE s)=A s):=Aa (λs=>by rw[<-HA.o]);rw[HA.o];have c2:=(B.3.cell 2).trans B.m;have h6:R<w.1.size:=(Y.1 B.3).1;obtain⟨D,hown,hD,e0⟩:=B.2.dq;have i7:bA D<=n:=hown.size_le;have i9:bA D<1000000:=O;have HS:=Aa (λw1 hr hg=>KLr.start (w:=w) (w1:=w1) (n:=n) e0 B.2.lt hr hg);have HD:=Aa hD;have HO:=Aa hown;have HQ:Hid (∀W,ae w.1.size w W->RS W R M n cs g vs st.Q):=Aa (λW hB=>B.below hB);have a1:Hid (∀s,Fit (A s)):=Aa (λs=>by rw[<-b1.o];exact B.7 _);have a2:Hid (∀s,(A s).length<=1000):=Aa (λs=>by rw[<-b1.o];exact hl _);have b8:Hid (∀s,g (aE s)=I->A s=[]):=Aa (λs S=>by rw[<-b1.o];exact B.8 _ S);have g0:Hid (∀s,g (aE s)≠I->s.size<=aU):=Aa (λs S=>by obtain⟨D',-,-,i2,h9⟩:=B.2.keys;have q:=(h9 s.1.1).2 (by rw[IG];exact S);have q2:=i2 _ q;rw[Array.length_toList]at q2;exact q2);obtain⟨j0,hj,e4,e5,e6⟩:=Aj Du;have HJ:=Aa hj;have f6:=Aa e4;have f7:=Aa e5;have f8:=Aa e6;obtain⟨i0,hi,f3,f4,f5⟩:=Aj VQ;have HI:=Aa hi;have g4:=Aa f3;have g5:=Aa f4;have g6:=Aa f5;clear h B h2 h3 hown hD e0 hl hj e4 e5 e6 hi f3 f4 f5 i7;go_enter func67,ntmps67;go_wp2_with(at_range;go_must(refine wpList_range_own _ rfl _ 59 rfl 9 60 Ec bM AP M n D rfl HO.o ?_);intro w1 c5 e3 i5);go_frame;have d9:Zl w M n D (λs=>g (aE s)) (aa I 0 0) w1:=⟨_,_,_,HS.o w1 c5 e3⟩;clear c5 e3 i5 HS;go_loopw[3,13] (λl _ wr=>Zl w M n D (λs=>g (aE s)) l wr) (λ_ _ wr=>wr.rangeLeft M w.1.size);case atStart=>exact d9
 case round=>
  obtain⟨left,cnt,ys,hrel⟩:=hrel;have HR:=Aa hrel;have d1:=hrel.1;clear hrel d9;go_wp2_with(at_next;go_must(refine wpList_next_ranges _ rfl _ rfl 9 Ec AP bj Cd DI CA M w.1.size n D left cnt rfl d1 ?_ ?_))
  ·intro _ e7;have b9:Hid (∀x,x∈ys↔g (aE ⟨x.toArray⟩)≠I):=Aa (λx=>by rw[HR.o.4 x,e7];simp);have U:ys.length<=1000000:=by have:=HR.o.5;omega
   have d:=HR.o.2;obtain⟨a,kc,rfl⟩:=Ah d;have c8:=Aa (Nr a kc (w.1.size+1) ys wr U d);have z:=Aa HR.o.6;have g9:=Aa HR.o.3;have j5:=HR.o.1.lt;obtain⟨ny,a4⟩:∃q,Hid (ys.length=q):=⟨_,rfl⟩;have d3:Hid (∀c,(aa a ny kc).ownBlock=G c->w.1.size<c):=Aa (λc hc=>(d.lt c (by rw[a4.o];exact hc)).1);rw[a4.o]at c8 U⊢;clear e7 HR d1 d;go_wp2_with(go_at_call 138;go_must(refine c8.o.mono ?_);rintro e w1 ⟨rfl,d,a0⟩;refine ac ?_);refine Aa ?_;obtain⟨v,c3⟩:=Py (ys.mergeSort (λx y=>aS (x<=y)));have a3:=Aa c3;clear c3;have c4:v.length=ny:=by have:=congrArg List.length a3.o;rw[bv,bC]at this;exact this.trans a4.o
   have a8:∀s,s∈v↔g (aE s)≠I:=λs=>by
    have e1:s∈v↔s.1.1∈v.map (λs=>s.1.1):=by
     rw[List.mem_map];constructor
     ·exact λS=>⟨s,S,rfl⟩
     ·rintro⟨t,ht,e⟩;have:t=s:=aY (aR.1 e);exact this▸ht
    rw[e1,a3.o,(bH ys _).mem_iff,b9.o,IG]
   have d8:Hu A v:=by
    have i3:(v.map (λs=>s.1.1)).Nodup:=by rw[a3.o,(bH ys _).nodup_iff];exact g9.o
    refine⟨?_,λs S=>b8.o s ?_,?_⟩
    ·exact(List.pairwise_map.1 i3).imp (λh7 e=>h7 (by rw[e]))
    ·cases ho:g (aE s)with
     |none=>rfl
     |some b=>exact absurd ((a8 s).2 (by rw[ho];simp)) S
    ·rw[a3.o];exact List.pairwise_mergeSort (λa b c B h2=>by simp only[decide_eq_true_eq]at*;exact List.le_trans B h2) (λa b=>by simp only[bS,decide_eq_true_eq];exact List.le_total a b) ys
   have a5:∀j s,v[j]?=G s->∃g,a=G ⟨g,0,I⟩/\g<w1.1.size/\w1.cell? ⟨g,j,I⟩=G (E s):=λj s S=>by
    have j1:=(al.1 S).1;have e1:((ys.mergeSort (λx y=>aS (x<=y))).map bj)[j]?=G (E s):=by rw[<-a3.o,List.map_map,bO,S];simp[bj]
    rcases d.2 with⟨h0,B⟩|⟨g,cap,cur,h0,hb,hg,-⟩
    ·omega
    ·cases h0;exact⟨g,rfl,(Y.1 hg).1,(d.cellAt j O).trans e1⟩
   have X:ae w.1.size w w1:=by refine⟨a0.1.trans z.o.1,a0.2.trans z.o.2,a0.3.trans z.o.3,ay z.o.4 a0.4,λk hk=>?_⟩;rw[a0.5 k (az hk z.o.4) (λe=>by have:=d3.o k e.symm;omega)];exact z.o.5 k hk
   obtain⟨nk,V⟩:∃q,Hid (ny=q):=⟨_,rfl⟩;have i4:Hid (v.length=nk):=Aa (c4.trans V.o);rw[V.o]at U⊢;have V:=i4;have j2:=U;have c7:=Aa a5;have HMem:=Aa a8;have f9:=Aa d8;have c6:=Aa X;have d5:=Aa (λ(W:aq) (hB:ae w1.1.size w1 W)=>Ab c6.o c6.o.4 hB);have h5:=h6;clear a5 a8 d8 X d c4 b8 c8 a0 d3 b9 U;go_wp2;go_loopw[5,25] (λl i wr=>∃j:Nat,j<=nk/\i=Z J j/\Hid (wr.ownsRow w1.1.size 84 5 l (BR A (v.take j)).length (AS (BR A (v.take j))))/\ae w1.1.size w1 wr) (λ_ i _=>nk-(aK i).toNat);case atStart=>exact⟨0,aH _,rfl,Aa (aw _ _ _ _),ad _ _⟩
   case round=>
    obtain⟨j,hj,rfl,hO,hB⟩:=hrel;by_cases a7:j<nk
    ·obtain⟨s,S⟩:∃s,v[j]?=G s:=⟨_,ag (by rw[V.o];exact a7)⟩;obtain⟨gb,rfl,h8,hc⟩:=c7.o j s S;have q0:=(hB.cell (p:=⟨gb,j,I⟩) h8).trans hc;have X:=d5.o wr hB;have hS:=HQ.o wr X;have d2:=(X.cell (p:=⟨R,2,I⟩) h5).trans c2;obtain⟨q,hq⟩:∃q,g (aE s)=G q:=by
      cases ho:g (aE s)with
      |none=>exact absurd ho ((HMem.o s).1 (List.mem_of_getElem? S))
      |some q=>exact⟨q,rfl⟩
     have f1:s.size<=aU:=g0.o s (by rw[hq];simp);have H:=hS.2.look59 s f1;rw[hq]at H;simp only[Cd]at H;have b4:=Aa (KL q (vs (aE s)) (A s) wr (by rw[<-b1.o];exact hS.1.q (aE s) q hq) (a2.o s) (a1.o s));have d7:Hid (v.take (j+1)=v.take j++[s]):=Aa (by rw[aF,S];rfl);obtain⟨nl,b5⟩:∃n,Hid ((BR A (v.take j)).length=n):=⟨_,rfl⟩;have j3:nl<=1000*j:=by have B:=Kk A a2.o a1.o (v.take j);rw[aD,V.o,b5.o]at B;have:min j nk=j:=O;rw[this]at B;omega
     obtain⟨nt,b6⟩:∃n,Hid ((Af aO (Aw (A s))).length=n):=⟨_,rfl⟩;have j4:nt<=1000:=by have B:=Bu aO (Aw (A s));rw[AO (a1.o s),b6.o]at B;have:=a2.o s;omega
     rw[b5.o]at hO;rw[b6.o]at b4;have HO:=hO;have z:=Aa hB;clear S hc hS hq f1 hO X;go_wp2_with(go_at_call 49;go_must(refine b4.o.mono ?_);rintro e w2 ⟨⟨v2,rfl,b0⟩,b7⟩;refine ac ?_);refine Aa ?_;have b3:=Aa (Cr HO.o b7);have b2:Hid (ae w1.1.size w1 w2):=Aa (Ab z.o z.o.4 b7);have e8:w1.1.size<=w2.1.size:=b2.o.4;rcases own_rowM b0 with⟨rfl,hz⟩|⟨g2,c2,rfl,e9⟩
     ·have Hz:=Aa hz;clear b0 b7 hz b4 q0 d2 H;go_wp2_with(at_builtin;go_must(refine wpList_append_own_none rfl _ _ 22 rfl w1.1.size 84 j0 5 aQ HJ.o u5 nl _ rfl b3.o rfl ?_));go_wp2;go_roundw;case rel=>refine⟨j+1,O,by go_num,Aa ?_,b2.o⟩;rw[d7.o,Ez,Hz.o,aN,b5.o];exact b3.o
      case measure=>simp[aK];omega
     ·have g8:=Aa e9;have i1:Hid ((AS (Af aO (Aw (A s)))).length=nt*5):=Aa (by rw[PE,b6.o]);have f0:Hid (∀u∈AS (Af aO (Aw (A s))),u.oneCell'=ao):=Aa (λu hu=>by obtain⟨m,-,hm⟩:=List.mem_flatMap.1 hu;exact Cu m u hm);clear b0 b7 e9 b4 q0 d2 H;go_wp2_with(at_builtin;go_must(refine bN _ rfl _ _ 22 rfl w1.1.size 84 j0 _ 5 56 aQ HJ.o f6.o f7.o f8.o rfl oD u5 nl _ rfl b3.o ⟨g2,0,I⟩ nt c2 (AS (Af aO (Aw (A s)))) rfl i1.o g8.o f0.o (by unfold aU;omega) O e8 ?_));intro v5 w5 r a6 _;have h4:ae w1.1.size w1 w5:=AB b2.o b3.o a6 b2.o.4 (ah _);have g3:=Aa r;clear r a6;go_wp2;go_roundw;case rel=>refine⟨j+1,O,by go_num,Aa ?_,h4⟩;rw[d7.o,Ez,PD,af,b5.o,b6.o];exact g3.o
      case measure=>simp[aK];omega
    ·obtain rfl:j=nk:=O;have HT:Hid (v.take j=v):=Aa (aj (by rw[V.o];exact ah _));go_wp2;go_ret;rw[HT.o]at hO;exact⟨v,_,rfl,Aa ⟨f9.o,AW hO.o c6.o.4,d5.o _ hB⟩⟩
  ·intro x c kl yd yp w2 cnt2 c1 H b0 c0 a9 a7 d0 i6 e2;have g7:Hid (cnt2<wr.rangeLeft M w.1.size):=Lib.hid (by rw[HR.o.1.left_eq];exact a7);have i8:(Instr.entry (C (G ⟨w.1.size,0,I⟩))).run T w2=.ok (aI #[E ⟨x.toArray⟩,Cd c]) w2:=e2;have U:ys.length+1<=1000000:=by have:=HR.o.5;omega
   have c9:=Aa (λj6 w5 v5=>HR.o.step (w5:=w5) (v5:=v5) HD.o c1 H c0 a9 a7 d0 j6);have d4:=Aa ((HR.o.row2 d0).alloc (aB #[E ⟨x.toArray⟩] 9));have f2:w.1.size+1<=(w2.alloc (aB #[E ⟨x.toArray⟩] 9)).1.size:=by have:=a9.lt;simp;omega
   have g1:=Aa (IH w2 (E ⟨x.toArray⟩) 9 (w2.alloc (aB #[E ⟨x.toArray⟩] 9)) oS);obtain⟨ny,a4⟩:∃q,Hid (ys.length=q):=⟨_,rfl⟩;rw[a4.o]at U d4 c9;clear c1 H b0 c0 a9 a7 d0 i6 e2 HR d1;go_wp2_with(at_builtin;go_must(refine bN _ rfl _ _ 90 rfl (w.1.size+1) 9 i0 _ 1 16 underlying90 HI.o g4.o g5.o g6.o rfl oD u3 ny _ rfl d4.o ⟨w2.1.size,0,I⟩ 1 1 [E ⟨x.toArray⟩] rfl rfl g1.o (by simp[bW]) (by unfold aU;omega) O f2 ?_));intro v5 w5 r a6 _;have d6:=Aa (c9.o _ w5 v5 r a6);clear r a6 c9;go_wp2;go_roundw;case rel=>exact⟨_,_,_,d6.o⟩
   case measure=>rw[d6.o.1.left_eq];exact g7.o
theorem Uw(L:Nat->Prop)(R:Nat)(st:AV)(far:Int)(w:aq)(h:Rx L R st w)(hl:∀l,(st.Q l).length<=1000)(m7:∀u,(st.8 u).length<=1000)(n2:∀u,0<=st.9 u/\st.9 u<=1000000)(hu:0<=st.11/\st.11<=1000000)(n0:st.13=ao->0<=st.14):aC T 15 #[C (G ⟨R,0,I⟩),Z J far] w (WK L R st far w):=by
 generalize hPost:WK L R st far w=Post;have c4:=Aa hPost;clear hPost;have HX:=Aa h;obtain⟨M,cs,P,P1,g,nv,uv,dv,h⟩:=h.open;have c0:=(h.s.cell 0).trans h.9.1;have c27:=(h.s.cell 27).trans h.9.7;have HA:=Aa (EG R st.5 far w c0);have U:Hid (J1 st far=if A0 st.5 far=ao then(if st.12=ao then 6 else if st.8 far.toNat=[]then(if Af bp (Aw (st.Q (aG far.toNat)))=[]then 8 else CG st)else 0)else 2):=Aa rfl;have k7:Hid (∀W er,J1 st far=er->er≠0->er≠14->ae w.1.size w W->Post (ab (aI #[Z J 0,aa I 0 0,Z J er])) W):=Aa (λW er he hn i3 f=>by rw[<-c4.o];refine⟨ak f,ai ⟨by rw[he];exact hn,by rw[he],?_⟩⟩;rw[if_neg (by rw[he];exact i3)];exact HX.o.below f);have H0:=Aa h;have Hl:=Aa hl;have n7:=Aa m7;have o3:=Aa n2;have HU:=Aa hu;have o2:=Aa n0;clear h hl m7 n2 hu n0 c0;obtain⟨bo,l8⟩:∃b,Hid (A0 st.5 far=b):=⟨_,rfl⟩;rw[l8.o]at HA U;cases bo
 ·have he:J1 st far=2:=by rw[U.o,if_neg oD]
  have HF:=Aa (k7.o w 2 he oD oD (ad _ _));clear he;go_enter bl,bg;go_wp2_with(go_at_call 47;go_must(refine HA.o.mono ?_);rintro e w1 ⟨rfl,rfl⟩;refine ac ?_);refine Aa ?_;go_wp2;exact HF.o
 rw[if_pos rfl]at U;obtain⟨dn,o8⟩:∃q,Hid (st.12=q):=⟨_,rfl⟩;rw[o8.o]at c27 U;cases dn;case true=>
  have he:J1 st far=6:=by rw[U.o,if_pos rfl]
  have HF:=Aa (k7.o w 6 he oD oD (ad _ _));clear he;go_enter bl,bg;go_wp2_with(go_at_call 47;go_must(refine HA.o.mono ?_);rintro e w1 ⟨rfl,rfl⟩;refine ac ?_);refine Aa ?_;go_wp2;exact HF.o
 rw[if_neg oD]at U;obtain⟨⟨f0,f4⟩,-⟩:=Bh.1 l8.o;obtain⟨i,q4⟩:∃n:Nat,far=(n:Int):=⟨far.toNat,O⟩;subst q4;have r:i<4:=O;rw[aA]at U;obtain⟨a9,k9,l4⟩:=Ah (H0.o.u.7 i r);have a2:=(H0.o.s.cell (14+i)).trans (H0.o.u.6 i r);rw[l4]at a2;have l1:(st.8 i).length<=1000:=n7.o i;by_cases f8:st.8 i=[];case neg=>
  have c2:((st.8 i).length:Int)≠0:=by intro e;exact f8 (bf O)
  have he:J1 st (i:Int)=0:=by rw[U.o,if_neg f8]
  have h9:Hid (LM st i=st):=Aa (by unfold LM;rw[if_neg f8]);obtain⟨n9,o9⟩:∃q,Hid ((st.8 i).length=q):=⟨_,rfl⟩;obtain⟨g0,c6⟩:∃q,Hid (st.9 i=q):=⟨_,rfl⟩;obtain⟨w0,b9⟩:∃q,q=w:=⟨_,rfl⟩;obtain⟨S,hS⟩:∃q,q=st:=⟨_,rfl⟩;have h8:Hid (S.Q (aG i)=st.Q (aG i)):=Aa (by rw[hS]);have HS:Hid (RO L R M cs P P1 g nv uv dv S w0):=by rw[hS,b9];exact H0
  have j2:Hid ((S.8 i).length<=1000):=Aa (by rw[hS];exact l1);have j9:Hid (S.9 i=g0):=by rw[hS];exact c6
  have b0:Hid (∀W v',ae w0.1.size w0 W->Rx L R S W->W.ownsRow w0.1.size 84 5 v' (AU (Af aO (Aw (S.Q (aG i)))) (S.8 i)).length (AS (AU (Af aO (Aw (S.Q (aG i)))) (S.8 i)))->Post (ab (aI #[Z J g0,v',Z J 0])) W):=Aa (λW v' f hx ho=>by
   rw[<-c4.o];rw[b9]at f ho;rw[hS]at ho hx;refine⟨ak f,ax ⟨he,?_,v',?_,?_⟩⟩
   ·rw[aA,h9.o];exact hx
   ·rw[aA,h9.o,c6.o]
   ·rw[aA,h9.o];exact ho);rw[o9.o]at a2 c2 l1;have c6:=j9;have r8:((n9:Int)==0)=am:=by simpa using c2
  clear hS j9 c2 f8 he U l4;rw[<-b9]at HA c27 a2⊢;clear b9;go_enter bl,bg;go_wp2_with(go_at_call 47;go_must(refine HA.o.mono ?_);rintro e w1 ⟨rfl,rfl⟩;refine ac ?_);refine Aa ?_;have f7:(S.Q (aG i)).length<=1000:=by rw[h8.o];exact Hl.o _
  obtain⟨s3,b1⟩:∃q,Hid (Af aO (Aw (S.Q (aG i)))=q):=⟨_,rfl⟩;obtain⟨D,a0⟩:∃q,Hid (S.8 i=q):=⟨_,rfl⟩;obtain⟨z,Hz⟩:∃z,Hid (s3.length=z):=⟨_,rfl⟩;obtain⟨y,Hy⟩:∃y,Hid (D.length=y):=⟨_,rfl⟩;have hz:z<=1000:=by rw[<-Hz.o,<-b1.o];exact ay (Bu _ _) (by rw[AO (HS.o.s.fit _)];exact f7)
  have hy:y<=1000:=by rw[<-Hy.o,<-a0.o];exact j2.o
  obtain⟨qb,b7,b8⟩:=HS.o.s.ways i r;have c3:=(HS.o.s.cell (3+i)).trans b8;have HK:=Aa (EH (aG i) qb w0 HS.o.s b7 f7);rw[b1.o,Hz.o]at HK;rw[b1.o,a0.o]at b0;clear b7 b8;go_wp2_with(go_at_call 49;go_must(refine HK.o.mono ?_);rintro e m ⟨⟨v4,rfl,a6⟩,b3⟩;refine ac ?_);refine Aa ?_;obtain⟨a4,k4,rfl⟩:=Ah a6;have H4:=Aa (HS.o.below b3);have g8:Hid (∀(j:Nat) x,s3[j]?=G x->∃t,a4=G ⟨t,0,I⟩/\t<m.1.size/\∀k,k<5->m.cell? ⟨t,j*5+k,I⟩=(mc x)[k]?):=Aa λj x hx=>by
   have b6:j<s3.length:=(al.1 hx).1;rcases a6.2 with⟨h0,h1⟩|⟨t,c1,cur,h0,hb,hg,-⟩
   ·have:=Hz.o;omega
   ·cases h0;exact⟨t,rfl,(Y.1 hg).1,B8 a6 Hz.o hx⟩
  obtain⟨a5,k5,a7⟩:=Ah (H4.o.u.7 i r);rw[a0.o,Hy.o]at a7;have g6:Hid (∀(j:Nat) d,D[j]?=G d->∃t,a5=G ⟨t,0,I⟩/\t<m.1.size/\m.cell? ⟨t,j,I⟩=G (Z J d)):=Aa λj d hd=>by
   have b6:j<D.length:=(al.1 hd).1;have ho:=H4.o.u.7 i r;rw[a7,a0.o,Hy.o]at ho;rcases ho.2 with⟨h0,h1⟩|⟨t,c1,cur,h0,hb,hg,-⟩
   ·have:=Hy.o;omega
   ·cases h0;refine⟨t,rfl,(Y.1 hg).1,?_⟩;rw[ho.cellAt j (by have:=Hy.o;omega)];simp[hd]
  have c5:Hid (∀W,ae m.1.size m W->W.cell? ⟨R,14+i,I⟩=G (aa a5 y k5)/\W.cell? ⟨R,18+i,I⟩=G (Z J g0)):=Aa λW f=>by
   have q:=H4.o.below f;refine⟨(q.s.cell (14+i)).trans ?_,(q.s.cell (18+i)).trans ?_⟩
   ·rw[q.u.6 i r,a7]
   ·rw[q.9.4 i r,c6.o]
  have a8:=Aa b3;obtain⟨j0,hj,f3,f5,f6⟩:=Aj Du;have HJ:=Aa hj;have g9:=Aa f3;have h2:=Aa f5;have h6:=Aa f6;clear hj f3 f5 f6 a6 a7 b3 HK c3;go_wp2;go_loopw[10,92] (λl i0 W=>∃j:Nat,j<=z/\i0=Z J j/\Hid (W.ownsRow m.1.size 84 5 l (AU (s3.take j) D).length (AS (AU (s3.take j) D)))/\ae m.1.size m W) (λ_ i0 _=>z-(aK i0).toNat);case atStart=>exact⟨0,aH _,rfl,Aa (aw _ _ _ _),ad _ _⟩
  case round=>
   obtain⟨j,hj,rfl,X,f⟩:=hrel;obtain⟨N,i8⟩:∃N,N=wr:=⟨_,rfl⟩;subst i8;by_cases b6:j<z
   ·obtain⟨x,hx⟩:∃x,s3[j]?=G x:=⟨_,ag (by rw[Hz.o];exact b6)⟩;obtain⟨t,rfl,i6,d9⟩:=g8.o j x hx;obtain⟨d0,d1,d2,d3,d4⟩:=GX (λk hk=>(f.cell (p:=⟨t,j*5+k,I⟩) i6).trans (d9 k hk));have d6:Hid (AU (s3.take (j+1)) D=AU (s3.take j) D++AC x D):=Aa (by rw[aF,hx,aL,GM]);have n3:(AU (s3.take j) D).length<=1000000:=by
     have q1:=Jp (s3.take j) D;have q2:(s3.take j).length<=1000:=by rw[aD];omega
     have q3:(s3.take j).length*D.length<=1000*1000:=bE q2 (by rw[Hy.o];exact hy);omega
    obtain⟨W3,b5⟩:∃W3,N.alloc (aB #[Z J x.1,Z J x.2,E x.3,E x.4,Z J x.5] 84)=W3:=⟨_,rfl⟩;have b2:ae m.1.size m W3:=by rw[<-b5];exact f.alloc f.4 _
    have c8:Hid (W3.ownsRow m.1.size 84 5 u10 (AU (s3.take j) D++AC x (D.take 0)).length (AS (AU (s3.take j) D++AC x (D.take 0)))):=Aa (by rw[<-b5,bD,show AC x []=[]from rfl,aN];exact X.o.alloc _);have a:Hid (Blk W3 N.1.size #[Z J x.1,Z J x.2,E x.3,E x.4,Z J x.5] 84/\¬u10.ownBlock=G N.1.size):=Aa ⟨by rw[<-b5];exact Blk.new N _ 84,λe=>by obtain⟨c,hc⟩:=AD X.o e;have:=(Y.1 hc).1;omega⟩;obtain⟨a2,-⟩:=c5.o W3 b2;clear d9 hx;go_wp2;go_loopw[10,103] (λl i0 W=>∃q:Nat,q<=y/\i0=Z J q/\Hid (W.ownsRow m.1.size 84 5 l (AU (s3.take j) D++AC x (D.take q)).length (AS (AU (s3.take j) D++AC x (D.take q))))/\ae m.1.size m W/\Hid (Blk W N.1.size #[Z J x.1,Z J x.2,E x.3,E x.4,Z J x.5] 84/\¬l.ownBlock=G N.1.size)) (λ_ i0 _=>y-(aK i0).toNat);case atStart=>exact⟨0,aH _,rfl,c8,b2,a⟩
    case round=>
     clear c8 a a2 d0 d1 d2 d3 d4 b2 X;obtain⟨q,hq,rfl,X,f,a⟩:=hrel;by_cases i7:q<y
     ·obtain⟨d,hd⟩:∃d,D[q]?=G d:=⟨_,ag (by rw[Hy.o];exact i7)⟩;obtain⟨gd,rfl,i5,f1⟩:=g6.o q d hd;have e0:=(f.cell (p:=⟨gd,q,I⟩) i5).trans f1;have d5:Hid (AC x (D.take (q+1))=AC x (D.take q)++if x.1=d then [x]else []):=Aa (by rw[aF,hd,aL,FN]);have n4:(AC x (D.take q)).length<=1000:=ay (Fo _ _) (by rw[aD];omega);have y0:=a.o.1.cell 0;have y1:=a.o.1.cell 1;have y2:=a.o.1.cell 2;have y3:=a.o.1.cell 3;have y4:=a.o.1.cell 4;simp at y0 y1 y2 y3 y4;clear hd f1;by_cases B:x.1=d
      ·have A:Hid (AS (AU (s3.take j) D++AC x (D.take (q+1)))=AS (AU (s3.take j) D++AC x (D.take q))++mc x/\(AU (s3.take j) D++AC x (D.take (q+1))).length=(AU (s3.take j) D++AC x (D.take q)).length+1):=Aa (by rw[d5.o,if_pos B,<-bq,B7,af (bs:=[x])];exact⟨rfl,rfl⟩);have j1:(x.1==d)=ao:=by simpa using B
       have c2:(AU (s3.take j) D++AC x (D.take q)).length<=2000000:=by rw[af];omega
       have c9:=Aa (X.o.alloc (aB #[Z J x.1,Z J x.2,E x.3,E x.4,Z J x.5] 84));have b4:=f.alloc f.4 (aB #[Z J x.1,Z J x.2,E x.3,E x.4,Z J x.5] 84);have h7:=Aa (Cq (w:=wr) x);have d8:Hid (N.1.size<wr.1.size):=Aa (Y.1 a.o.1).1;subst B;go_wp2_with(at_builtin;go_must(refine bc _ rfl _ _ 22 rfl m.1.size 84 j0 _ 5 56 aQ HJ.o g9.o h2.o h6.o rfl oD u10 _ _ rfl c9.o ⟨wr.1.size,0,I⟩ 1 1 (mc x) rfl rfl h7.o (Cu _) (by unfold aU;omega) O b4.4 ?_));intro v5 w5 H f2 _ f9;have i4:ae m.1.size m w5:=AB b4 c9.o f2 b4.4 (ah _);have d7:Hid (Blk w5 N.1.size #[Z J x.1,Z J x.2,E x.3,E x.4,Z J x.5] 84/\¬v5.ownBlock=G N.1.size):=Aa ⟨(f2.5 _ (by have:=d8.o;simp;omega) (λe=>a.o.2 e.symm)).trans (a.o.1.alloc _),λe=>f9.elim (λh=>a.o.2 (h▸e)) (λh=>by
        rw[h]at e;have:=d8.o;injection e with e;first|omega|(simp at e;omega)
        )⟩;go_wp2;go_roundw;case rel=>exact⟨q+1,O,by go_num,Aa (by rw[A.o.1,A.o.2,af];exact H),i4,d7⟩
       case measure=>simp[aK];omega
      ·have j1:(x.1==d)=am:=by simpa using B
       have A:Hid (AC x (D.take (q+1))=AC x (D.take q)):=Aa (by rw[d5.o,if_neg B,aN]);clear B;go_wp2;go_roundw;case rel=>exact⟨q+1,O,by go_num,Aa (by rw[A.o];exact X.o),f,a⟩
       case measure=>simp[aK];omega
     ·obtain rfl:q=y:=O;have A:Hid (AU (s3.take j) D++AC x (D.take q)=AU (s3.take (j+1)) D):=Aa (by rw[d6.o,show D.take q=D from aj (by rw[Hy.o];exact ah _)]);rw[A.o]at X;go_wp2;go_roundw;case rel=>exact⟨j+1,O,by go_num,X,f⟩
      case measure=>simp[aK];omega
   ·obtain rfl:j=z:=O;obtain⟨-,i1⟩:=c5.o _ f;rw[show s3.take j=s3 from aj (by rw[Hz.o];exact ah _)]at X;have HF:=Aa (b0.o N u10 (Ab a8.o a8.o.4 f) (H4.o.below f).shut (AW X.o a8.o.4));clear f;go_wp2;exact HF.o
 rw[if_pos f8]at U;have g7:=Aa f8;rw[f8]at a2;change w.cell? ⟨R,14+i,I⟩=G (aa a9 0 k9)at a2;obtain⟨fr,j4⟩:∃q,Hid (Af bp (Aw (st.Q (aG i)))=q):=⟨_,rfl⟩;rw[j4.o]at U;obtain⟨qb,b7,b8⟩:=H0.o.s.ways i r;have c3:=(H0.o.s.cell (3+i)).trans b8;have j3:=Aa (In (aG i) qb w H0.o.s b7 (Hl.o _));have q5:fr.length<=1000:=by rw[<-j4.o];exact ay (Bu _ _) (by rw[AO (H0.o.s.fit _)];exact Hl.o _)
 rw[j4.o]at j3;obtain⟨z,Hz⟩:∃z,Hid (fr.length=z):=⟨_,rfl⟩;rw[Hz.o]at j3 q5;clear b7 b8 f8 l4 l1;by_cases g5:fr=[];case pos=>
  have he:J1 st (i:Int)=8:=by rw[U.o,if_pos g5]
  have HF:=Aa (λW f=>k7.o W 8 he oD oD f);have j8:z=0:=by rw[<-Hz.o,g5];rfl
  subst j8;clear he g5;go_enter bl,bg;go_wp2_with(go_at_call 47;go_must(refine HA.o.mono ?_);rintro e w1 ⟨rfl,rfl⟩;refine ac ?_);refine Aa ?_;go_wp2_with(go_at_call 48;go_must(refine j3.o.mono ?_);rintro e w1 ⟨⟨v1,rfl,g1⟩,g4⟩;refine ac ?_);refine Aa ?_;obtain⟨a1,k1,rfl⟩:=Ah g1;have o0:=Aa (HF.o w1 g4);clear g1 g4;go_wp2;exact o0.o
 rw[if_neg g5]at U;have s2:0<z:=by rw[<-Hz.o];exact List.length_pos_iff.2 g5
 clear g5;obtain⟨we,j5⟩:∃q,Hid (CG st=q):=⟨_,rfl⟩;rw[j5.o]at U;obtain⟨e1,e2,e3,e4,e5,e6,e7,e8,e9,p8⟩:=Fi st;go_enter bl,bg;go_wp2_with(go_at_call 47;go_must(refine HA.o.mono ?_);rintro e w1 ⟨rfl,rfl⟩;refine ac ?_);refine Aa ?_;go_wp2_with(go_at_call 48;go_must(refine j3.o.mono ?_);rintro e w1 ⟨⟨v1,rfl,g1⟩,g4⟩;refine ac ?_);refine Aa ?_;obtain⟨a1,k1,rfl⟩:=Ah g1;obtain⟨s4,rfl,q0,j6⟩:∃s4,a1=G ⟨s4,0,I⟩/\w.1.size<=s4/\s4<w1.1.size:=by
  rcases g1.2 with⟨h0,h1⟩|⟨t,c1,cur,h0,hb,hg,-⟩
  ·omega
  ·cases h0;exact⟨t,rfl,hb,(Y.1 hg).1⟩
 have n8:Hid (∀(j:Nat) x,fr[j]?=G x->∀W,Only w1 W (λk=>¬(L k\/k=s4))->W.cell? ⟨s4,j*5,I⟩=G (Z J x.1)):=Aa λj x hx W hO=>by have q:=B8 g1 Hz.o hx 0 O;have hb:=hO.5 s4 j6 (λhh=>hh (ax rfl));have:W.cell? ⟨s4,j*5,I⟩=w1.cell? ⟨s4,j*5,I⟩:=Only.cell hO j6 (λhh=>hh (ax rfl));rw[this];exact q
 have H1:=Aa (H0.o.box g4 q0 j6);have HWr:=Aa (CT st w1 H1.o HU.o o2.o);rw[j5.o]at HWr;have l6:=Aa g4;clear g1 c3 g4 a2 c27;go_wp2_with(go_at_call 44;go_must(refine HWr.o.mono ?_);rintro e w2 ⟨rfl,q7⟩;refine ac ?_);refine Aa ?_;obtain⟨p0,P2,P3,n5,m4⟩:=q7;have c7:=Aa m4;have k8:=Aa n5;have l7:Hid (∀W W',Only W W' (λk=>¬(L k\/k=s4))->Only W W' (λk=>¬L k)):=Aa λW W' h=>h.mono (λk _ hk hl=>hk (ai hl));clear n5 m4 HWr;by_cases i9:we=0;case neg=>
  have s1:(we==0)=am:=by simpa using i9
  have HF:Hid (Post (ab (aI #[Z J 0,aa I 0 0,Z J we])) w2):=Aa (by
   rw[<-c4.o];refine⟨(ak l6.o).trans ((l7.o _ _ c7.o).mono (λk _ hk=>ai hk)),ai ⟨by rw[U.o];exact i9,by rw[U.o],?_⟩⟩;rw[U.o];have q:=k8.o.unbox.shut;by_cases i3:we=14
   ·rw[if_pos i3];exact q
   ·rw[if_neg i3];have:Ba st=st:=by unfold Ba;rw[if_neg (by rw[j5.o];exact i9),if_neg (by rw[j5.o];exact i3)]
    rw[this]at q;exact q);clear i9;go_wp2;exact HF.o
 subst i9;have h9:Hid (LM st i={Ba st with db:=Ae st.8 i ((fr.take 3).map Mg.id),md:=Ae st.9 i (st.9 i+1)}):=Aa (by unfold LM;rw[if_pos g7.o,j4.o]);have H3:Hid (∃cs P P1 dv,RO (λk=>L k\/k=s4) R M cs P P1 g nv uv dv {Ba st with db:=Ae st.8 i ((fr.take 0).map Mg.id)} w2):=Aa ⟨p0,P2,P3,dv,by
  have q:=k8.o;have e:({Ba st with db:=Ae st.8 i ((fr.take 0).map Mg.id)}:AV)=Ba st:=by
   have:Ae st.8 i ((fr.take 0).map Mg.id)=(Ba st).8:=by
    rw[e5];funext v;unfold Ae;split
    ·rename_i hh;rw[hh,g7.o];rfl
    ·rfl
   rw[this]
  rw[e];exact q⟩;clear e1 e2 e3 e4 e6 e7 e8 p8;obtain⟨i0,hi,j8,k6,n6⟩:=Aj Pv;have o1:=Aa hi;have o5:=Aa j8;have o6:=Aa k6;have o7:=Aa n6;clear hi j8 k6 n6;go_wp2;go_loopw[9] (λi0 W=>∃j:Nat,j<=3/\j<=z/\i0=Z J j/\Hid (∃cs P P1 dv,RO (λk=>L k\/k=s4) R M cs P P1 g nv uv dv {Ba st with db:=Ae st.8 i ((fr.take j).map Mg.id)} W)/\Hid (Only w1 W (λk=>¬(L k\/k=s4)))) (λi0 _=>3-(aK i0).toNat);case atStart=>exact⟨0,aH _,aH _,rfl,H3,c7⟩
 case round=>
  clear H3 k8 c7;obtain⟨j,r6,r7,rfl,H3,c7⟩:=hrel;obtain⟨V,hV⟩:∃V,V=wr:=⟨_,rfl⟩;subst hV;obtain⟨r1,P4,P5,p6,h3⟩:=H3.o;by_cases l3:j<z/\j<3
  ·obtain⟨m8,q9⟩:=l3;obtain⟨x,hx⟩:∃x,fr[j]?=G x:=⟨_,ag (by rw[Hz.o];exact m8)⟩;have y0:=n8.o j x hx V c7.o;have j7:(((fr.take j).map Mg.id)).length=j:=by rw[bv,aD,Hz.o];omega
   have d6:Hid ((fr.take (j+1)).map Mg.id=(fr.take j).map Mg.id++[x.1]):=Aa (by rw[aF,hx,aL,bx];rfl);obtain⟨a3,k3,g2⟩:=Ah (h3.u.7 i r);have a2:=(h3.s.cell (14+i)).trans (h3.u.6 i r);have f14:=h3.s.free (14+i);have i2:({Ba st with db:=Ae st.8 i ((fr.take j).map Mg.id)}:AV).8 i=(fr.take j).map Mg.id:=Ad _ _ _;rw[i2,j7]at g2;rw[g2]at a2;have o4:Hid (∀W,ae V.1.size V W->W.ownsRow 0 3 1 (aa a3 j k3) j (((fr.take j).map Mg.id).map (Z J))):=Aa (λW f=>by have q:=(h3.below f).u.7 i r;rw[g2,i2,j7]at q;exact q);have l5:Hid (∀W v5 w5,w5.ownsRow 0 3 1 v5 (j+1) (((fr.take j).map Mg.id).map (Z J)++[Z J x.1])->W.grownBy w5 (aa a3 j k3).ownBlock->From W (aa a3 j k3) v5->ae V.1.size V W->(w5.cell? ⟨R,14+i,I⟩=G (aa a3 j k3)/\w5.frozen? ⟨R,14+i,I⟩=am)/\Hid ((∃cs P P1 dv,RO (λk=>L k\/k=s4) R M cs P P1 g nv uv dv {Ba st with db:=Ae st.8 i ((fr.take (j+1)).map Mg.id)} (w5.setCell ⟨R,14+i,I⟩ v5))/\Only V (w5.setCell ⟨R,14+i,I⟩ v5) (λk=>¬(L k\/k=s4)))):=Aa (λW v5 w5 p1 p2 p3 p4=>by
    obtain⟨⟨t1,t2,t3⟩,P6,P7,t4,t5⟩:=h3.doubt (u:=i) (d:=x.1) (v5:=v5) (w5:=w5) r p4 (by rw[i2,j7];exact p1) (by rw[g2];exact p2) (by rw[g2];exact p3);rw[g2]at t1;rw[i2]at t4;have e:Ae (Ae st.8 i ((fr.take j).map Mg.id)) i ((fr.take j).map Mg.id++[x.1])=Ae st.8 i ((fr.take (j+1)).map Mg.id):=by rw[d6.o];funext v;unfold Ae;split<;>rfl
    have t6:RO (λk=>L k\/k=s4) R M _ P6 P7 g nv uv _ {Ba st with db:=Ae (Ae st.8 i ((fr.take j).map Mg.id)) i ((fr.take j).map Mg.id++[x.1])} (w5.setCell ⟨R,14+i,I⟩ v5):=t4;rw[e]at t6;exact⟨⟨t1,t2⟩,Aa ⟨⟨_,P6,P7,_,t6⟩,t5⟩⟩);have r3:R<V.1.size:=(Y.1 h3.s.here).1;have r5:s4<V.1.size:=az j6 c7.o.4;have p9:R≠s4:=λe=>by have q1:=(Y.1 H0.o.s.here).1;omega
   have r4:s4≠R:=p9.symm;obtain⟨q8,m2⟩:∃q,Hid (x.1=q):=⟨_,rfl⟩;rw[m2.o]at y0 l5;have q6:(j:Int)<z:=O;clear h3 hx g2 i2 H3 j7 d6;go_wp2;go_region_law
    (refine CD rfl (.tmp 63) (.tmp 69) 64 rfl 0 3 i0 (Z J 0) 1 8 underlying64 o1.o o5.o o6.o o7.o rfl oD (aa a3 j k3) j _ (by simp[Act.eval]) (o4.o _ (by repeat(first|exact ad _ _|refine br ?_|refine cg ?_ oS _))) ⟨V.1.size,0,I⟩ 1 1 oD [Z J q8] (by simp[Act.eval]) rfl (IH V _ 3 _ oS) (by simp[bW]) (by unfold aU;omega) O (aH _) ?_;intro v5 w5 H g3 m3;obtain⟨a5,k5,rfl⟩:=Ah H;obtain⟨⟨c145,f145⟩,m6⟩:=l5.o _ _ _ H g3 m3 (by repeat(first|exact ad _ _|refine br ?_|refine cg ?_ oS _));clear m3 g3 H);all_goals
    go_wp2;go_roundw;case rel=>exact⟨j+1,O,O,by go_num,Aa m6.o.1,Aa (c7.o.thenL m6.o.2)⟩
    case measure=>simp[aK];omega
  ·have k2:fr.take j=fr.take 3:=by
    by_cases q:j=3
    ·rw[q]
    ·rw[aj (by rw[Hz.o];omega),aj (by rw[Hz.o];omega)]
   rw[k2]at h3;have i1:=(h3.s.cell (18+i)).trans (h3.9.4 i r);have r2:=h3.s.free (18+i);have em:({Ba st with db:=Ae st.8 i ((fr.take 3).map Mg.id)}:AV).9 i=st.9 i:=by show(Ba st).9 i=_;rw[e9]
   rw[em]at i1;obtain⟨m0,l9⟩:∃q,Hid (st.9 i=q):=⟨_,rfl⟩;have n1:=o3.o i;rw[l9.o]at i1 n1;obtain⟨r9,s0⟩:=n1;obtain⟨P6,P7,h4,m5⟩:=h3.setMd r (m0+1);obtain⟨S,hS⟩:∃S:AV,S={Ba st with db:=Ae st.8 i ((fr.take 3).map Mg.id),md:=Ae (Ba st).9 i (m0+1)}:=⟨_,rfl⟩;have l0:Hid (LM st i=S):=Aa (by rw[h9.o,hS,e9,l9.o]);obtain⟨w0,b9⟩:∃q,q=(V.setCell ⟨R,18+i,I⟩ (Z J (m0+1))).drew:=⟨_,rfl⟩;have h5:=h4.unbox;obtain⟨g0,m1⟩:∃q:Int,Hid (m0+1=q):=⟨_,rfl⟩;have HS:Hid (∃cs P P1 dv,RO L R M cs P P1 g nv uv dv S w0):=Aa ⟨_,P6,P7,p6,by rw[hS,b9];exact h5.below (ad _ _).drew⟩;have k0:Hid (Only w w0 (λk=>¬L k)):=Aa (by rw[b9];exact(ak l6.o).trans (((l7.o _ _ (c7.o.thenL m5)).thenL (ak (ad _ _).drew)).mono (λk _ hk=>ai hk)));have h8:Hid (S.Q (aG i)=st.Q (aG i)):=Aa (by rw[hS];show(Ba st).Q _=_;rw[(Fi st).2.1]);have j2:Hid ((S.8 i).length<=1000):=Aa (by rw[hS];show(Ae st.8 i _ i).length<=_;rw[Ad,bv,aD];omega);have c6:Hid (S.9 i=g0):=Aa (by rw[hS];show Ae (Ba st).9 i _ i=_;rw[Ad];exact m1.o);have b0:Hid (∀W v',ae w0.1.size w0 W->Rx L R S W->W.ownsRow w0.1.size 84 5 v' (AU (Af aO (Aw (S.Q (aG i)))) (S.8 i)).length (AS (AU (Af aO (Aw (S.Q (aG i)))) (S.8 i)))->Post (ab (aI #[Z J g0,v',Z J 0])) W):=Aa (λW v' f hx ho=>by
    rw[<-c4.o];refine⟨k0.o.trans (ak f),ax ⟨U.o,?_,v',?_,?_⟩⟩
    ·rw[aA,l0.o];exact hx
    ·rw[aA,l0.o,c6.o]
    ·rw[aA,l0.o,<-h8.o];exact AW ho k0.o.4);have l2:¬((j:Int)<z/\(j:Int)<3):=O;clear h3 h4 h5 m5 k2 em H3 hS;by_cases m9:(j:Int)<z
   ·have r0:¬(j:Int)<3:=λh=>l2 ⟨m9,h⟩;clear l2 l3;go_wp2;go_region;rw[<-b9];obtain⟨p5,P8,P9,p7,HS⟩:=HS.o;have HS:=Aa HS;clear b9;have f7:(S.Q (aG i)).length<=1000:=by rw[h8.o];exact Hl.o _
    obtain⟨s3,b1⟩:∃q,Hid (Af aO (Aw (S.Q (aG i)))=q):=⟨_,rfl⟩;obtain⟨D,a0⟩:∃q,Hid (S.8 i=q):=⟨_,rfl⟩;obtain⟨z,Hz⟩:∃z,Hid (s3.length=z):=⟨_,rfl⟩;obtain⟨y,Hy⟩:∃y,Hid (D.length=y):=⟨_,rfl⟩;have hz:z<=1000:=by rw[<-Hz.o,<-b1.o];exact ay (Bu _ _) (by rw[AO (HS.o.s.fit _)];exact f7)
    have hy:y<=1000:=by rw[<-Hy.o,<-a0.o];exact j2.o
    obtain⟨qb,b7,b8⟩:=HS.o.s.ways i r;have c3:=(HS.o.s.cell (3+i)).trans b8;have HK:=Aa (EH (aG i) qb w0 HS.o.s b7 f7);rw[b1.o,Hz.o]at HK;rw[b1.o,a0.o]at b0;clear b7 b8;go_wp2_with(go_at_call 49;go_must(refine HK.o.mono ?_);rintro e m ⟨⟨v4,rfl,a6⟩,b3⟩;refine ac ?_);refine Aa ?_;obtain⟨a4,k4,rfl⟩:=Ah a6;have H4:=Aa (HS.o.below b3);have g8:Hid (∀(j:Nat) x,s3[j]?=G x->∃t,a4=G ⟨t,0,I⟩/\t<m.1.size/\∀k,k<5->m.cell? ⟨t,j*5+k,I⟩=(mc x)[k]?):=Aa λj x hx=>by
     have b6:j<s3.length:=(al.1 hx).1;rcases a6.2 with⟨h0,h1⟩|⟨t,c1,cur,h0,hb,hg,-⟩
     ·have:=Hz.o;omega
     ·cases h0;exact⟨t,rfl,(Y.1 hg).1,B8 a6 Hz.o hx⟩
    obtain⟨a5,k5,a7⟩:=Ah (H4.o.u.7 i r);rw[a0.o,Hy.o]at a7;have g6:Hid (∀(j:Nat) d,D[j]?=G d->∃t,a5=G ⟨t,0,I⟩/\t<m.1.size/\m.cell? ⟨t,j,I⟩=G (Z J d)):=Aa λj d hd=>by
     have b6:j<D.length:=(al.1 hd).1;have ho:=H4.o.u.7 i r;rw[a7,a0.o,Hy.o]at ho;rcases ho.2 with⟨h0,h1⟩|⟨t,c1,cur,h0,hb,hg,-⟩
     ·have:=Hy.o;omega
     ·cases h0;refine⟨t,rfl,(Y.1 hg).1,?_⟩;rw[ho.cellAt j (by have:=Hy.o;omega)];simp[hd]
    have c5:Hid (∀W,ae m.1.size m W->W.cell? ⟨R,14+i,I⟩=G (aa a5 y k5)/\W.cell? ⟨R,18+i,I⟩=G (Z J g0)):=Aa λW f=>by
     have q:=H4.o.below f;refine⟨(q.s.cell (14+i)).trans ?_,(q.s.cell (18+i)).trans ?_⟩
     ·rw[q.u.6 i r,a7]
     ·rw[q.9.4 i r,c6.o]
    have a8:=Aa b3;obtain⟨j0,hj,f3,f5,f6⟩:=Aj Du;have HJ:=Aa hj;have g9:=Aa f3;have h2:=Aa f5;have h6:=Aa f6;clear hj f3 f5 f6 a6 a7 b3 HK c3;go_wp2;go_loopw[10,92] (λl i0 W=>∃j:Nat,j<=z/\i0=Z J j/\Hid (W.ownsRow m.1.size 84 5 l (AU (s3.take j) D).length (AS (AU (s3.take j) D)))/\ae m.1.size m W) (λ_ i0 _=>z-(aK i0).toNat);case atStart=>exact⟨0,aH _,rfl,Aa (aw _ _ _ _),ad _ _⟩
    case round=>
     obtain⟨j,hj,rfl,X,f⟩:=hrel;obtain⟨N,i8⟩:∃N,N=wr:=⟨_,rfl⟩;subst i8;by_cases b6:j<z
     ·obtain⟨x,hx⟩:∃x,s3[j]?=G x:=⟨_,ag (by rw[Hz.o];exact b6)⟩;obtain⟨t,rfl,i6,d9⟩:=g8.o j x hx;obtain⟨d0,d1,d2,d3,d4⟩:=GX (λk hk=>(f.cell (p:=⟨t,j*5+k,I⟩) i6).trans (d9 k hk));have d6:Hid (AU (s3.take (j+1)) D=AU (s3.take j) D++AC x D):=Aa (by rw[aF,hx,aL,GM]);have n3:(AU (s3.take j) D).length<=1000000:=by
       have q1:=Jp (s3.take j) D;have q2:(s3.take j).length<=1000:=by rw[aD];omega
       have q3:(s3.take j).length*D.length<=1000*1000:=bE q2 (by rw[Hy.o];exact hy);omega
      obtain⟨W3,b5⟩:∃W3,N.alloc (aB #[Z J x.1,Z J x.2,E x.3,E x.4,Z J x.5] 84)=W3:=⟨_,rfl⟩;have b2:ae m.1.size m W3:=by rw[<-b5];exact f.alloc f.4 _
      have c8:Hid (W3.ownsRow m.1.size 84 5 u10 (AU (s3.take j) D++AC x (D.take 0)).length (AS (AU (s3.take j) D++AC x (D.take 0)))):=Aa (by rw[<-b5,bD,show AC x []=[]from rfl,aN];exact X.o.alloc _);have a:Hid (Blk W3 N.1.size #[Z J x.1,Z J x.2,E x.3,E x.4,Z J x.5] 84/\¬u10.ownBlock=G N.1.size):=Aa ⟨by rw[<-b5];exact Blk.new N _ 84,λe=>by obtain⟨c,hc⟩:=AD X.o e;have:=(Y.1 hc).1;omega⟩;obtain⟨a2,-⟩:=c5.o W3 b2;clear d9 hx;go_wp2;go_loopw[10,103] (λl i0 W=>∃q:Nat,q<=y/\i0=Z J q/\Hid (W.ownsRow m.1.size 84 5 l (AU (s3.take j) D++AC x (D.take q)).length (AS (AU (s3.take j) D++AC x (D.take q))))/\ae m.1.size m W/\Hid (Blk W N.1.size #[Z J x.1,Z J x.2,E x.3,E x.4,Z J x.5] 84/\¬l.ownBlock=G N.1.size)) (λ_ i0 _=>y-(aK i0).toNat);case atStart=>exact⟨0,aH _,rfl,c8,b2,a⟩
      case round=>
       clear c8 a a2 d0 d1 d2 d3 d4 b2 X;obtain⟨q,hq,rfl,X,f,a⟩:=hrel;by_cases i7:q<y
       ·obtain⟨d,hd⟩:∃d,D[q]?=G d:=⟨_,ag (by rw[Hy.o];exact i7)⟩;obtain⟨gd,rfl,i5,f1⟩:=g6.o q d hd;have e0:=(f.cell (p:=⟨gd,q,I⟩) i5).trans f1;have d5:Hid (AC x (D.take (q+1))=AC x (D.take q)++if x.1=d then [x]else []):=Aa (by rw[aF,hd,aL,FN]);have n4:(AC x (D.take q)).length<=1000:=ay (Fo _ _) (by rw[aD];omega);have y0:=a.o.1.cell 0;have y1:=a.o.1.cell 1;have y2:=a.o.1.cell 2;have y3:=a.o.1.cell 3;have y4:=a.o.1.cell 4;simp at y0 y1 y2 y3 y4;clear hd f1;by_cases B:x.1=d
        ·have A:Hid (AS (AU (s3.take j) D++AC x (D.take (q+1)))=AS (AU (s3.take j) D++AC x (D.take q))++mc x/\(AU (s3.take j) D++AC x (D.take (q+1))).length=(AU (s3.take j) D++AC x (D.take q)).length+1):=Aa (by rw[d5.o,if_pos B,<-bq,B7,af (bs:=[x])];exact⟨rfl,rfl⟩);have j1:(x.1==d)=ao:=by simpa using B
         have c2:(AU (s3.take j) D++AC x (D.take q)).length<=2000000:=by rw[af];omega
         have c9:=Aa (X.o.alloc (aB #[Z J x.1,Z J x.2,E x.3,E x.4,Z J x.5] 84));have b4:=f.alloc f.4 (aB #[Z J x.1,Z J x.2,E x.3,E x.4,Z J x.5] 84);have h7:=Aa (Cq (w:=wr) x);have d8:Hid (N.1.size<wr.1.size):=Aa (Y.1 a.o.1).1;subst B;go_wp2_with(at_builtin;go_must(refine bc _ rfl _ _ 22 rfl m.1.size 84 j0 _ 5 56 aQ HJ.o g9.o h2.o h6.o rfl oD u10 _ _ rfl c9.o ⟨wr.1.size,0,I⟩ 1 1 (mc x) rfl rfl h7.o (Cu _) (by unfold aU;omega) O b4.4 ?_));intro v5 w5 H f2 _ f9;have i4:ae m.1.size m w5:=AB b4 c9.o f2 b4.4 (ah _);have d7:Hid (Blk w5 N.1.size #[Z J x.1,Z J x.2,E x.3,E x.4,Z J x.5] 84/\¬v5.ownBlock=G N.1.size):=Aa ⟨(f2.5 _ (by have:=d8.o;simp;omega) (λe=>a.o.2 e.symm)).trans (a.o.1.alloc _),λe=>f9.elim (λh=>a.o.2 (h▸e)) (λh=>by
          rw[h]at e;have:=d8.o;injection e with e;first|omega|(simp at e;omega)
          )⟩;go_wp2;go_roundw;case rel=>exact⟨q+1,O,by go_num,Aa (by rw[A.o.1,A.o.2,af];exact H),i4,d7⟩
         case measure=>simp[aK];omega
        ·have j1:(x.1==d)=am:=by simpa using B
         have A:Hid (AC x (D.take (q+1))=AC x (D.take q)):=Aa (by rw[d5.o,if_neg B,aN]);clear B;go_wp2;go_roundw;case rel=>exact⟨q+1,O,by go_num,Aa (by rw[A.o];exact X.o),f,a⟩
         case measure=>simp[aK];omega
       ·obtain rfl:q=y:=O;have A:Hid (AU (s3.take j) D++AC x (D.take q)=AU (s3.take (j+1)) D):=Aa (by rw[d6.o,show D.take q=D from aj (by rw[Hy.o];exact ah _)]);rw[A.o]at X;go_wp2;go_roundw;case rel=>exact⟨j+1,O,by go_num,X,f⟩
        case measure=>simp[aK];omega
     ·obtain rfl:j=z:=O;obtain⟨-,i1⟩:=c5.o _ f;rw[show s3.take j=s3 from aj (by rw[Hz.o];exact ah _)]at X;have HF:=Aa (b0.o N u10 (Ab a8.o a8.o.4 f) (H4.o.below f).shut (AW X.o a8.o.4));clear f;go_wp2;exact HF.o
   ·clear l2 l3;go_wp2;go_region;rw[<-b9];obtain⟨p5,P8,P9,p7,HS⟩:=HS.o;have HS:=Aa HS;clear b9;have f7:(S.Q (aG i)).length<=1000:=by rw[h8.o];exact Hl.o _
    obtain⟨s3,b1⟩:∃q,Hid (Af aO (Aw (S.Q (aG i)))=q):=⟨_,rfl⟩;obtain⟨D,a0⟩:∃q,Hid (S.8 i=q):=⟨_,rfl⟩;obtain⟨z,Hz⟩:∃z,Hid (s3.length=z):=⟨_,rfl⟩;obtain⟨y,Hy⟩:∃y,Hid (D.length=y):=⟨_,rfl⟩;have hz:z<=1000:=by rw[<-Hz.o,<-b1.o];exact ay (Bu _ _) (by rw[AO (HS.o.s.fit _)];exact f7)
    have hy:y<=1000:=by rw[<-Hy.o,<-a0.o];exact j2.o
    obtain⟨qb,b7,b8⟩:=HS.o.s.ways i r;have c3:=(HS.o.s.cell (3+i)).trans b8;have HK:=Aa (EH (aG i) qb w0 HS.o.s b7 f7);rw[b1.o,Hz.o]at HK;rw[b1.o,a0.o]at b0;clear b7 b8;go_wp2_with(go_at_call 49;go_must(refine HK.o.mono ?_);rintro e m ⟨⟨v4,rfl,a6⟩,b3⟩;refine ac ?_);refine Aa ?_;obtain⟨a4,k4,rfl⟩:=Ah a6;have H4:=Aa (HS.o.below b3);have g8:Hid (∀(j:Nat) x,s3[j]?=G x->∃t,a4=G ⟨t,0,I⟩/\t<m.1.size/\∀k,k<5->m.cell? ⟨t,j*5+k,I⟩=(mc x)[k]?):=Aa λj x hx=>by
     have b6:j<s3.length:=(al.1 hx).1;rcases a6.2 with⟨h0,h1⟩|⟨t,c1,cur,h0,hb,hg,-⟩
     ·have:=Hz.o;omega
     ·cases h0;exact⟨t,rfl,(Y.1 hg).1,B8 a6 Hz.o hx⟩
    obtain⟨a5,k5,a7⟩:=Ah (H4.o.u.7 i r);rw[a0.o,Hy.o]at a7;have g6:Hid (∀(j:Nat) d,D[j]?=G d->∃t,a5=G ⟨t,0,I⟩/\t<m.1.size/\m.cell? ⟨t,j,I⟩=G (Z J d)):=Aa λj d hd=>by
     have b6:j<D.length:=(al.1 hd).1;have ho:=H4.o.u.7 i r;rw[a7,a0.o,Hy.o]at ho;rcases ho.2 with⟨h0,h1⟩|⟨t,c1,cur,h0,hb,hg,-⟩
     ·have:=Hy.o;omega
     ·cases h0;refine⟨t,rfl,(Y.1 hg).1,?_⟩;rw[ho.cellAt j (by have:=Hy.o;omega)];simp[hd]
    have c5:Hid (∀W,ae m.1.size m W->W.cell? ⟨R,14+i,I⟩=G (aa a5 y k5)/\W.cell? ⟨R,18+i,I⟩=G (Z J g0)):=Aa λW f=>by
     have q:=H4.o.below f;refine⟨(q.s.cell (14+i)).trans ?_,(q.s.cell (18+i)).trans ?_⟩
     ·rw[q.u.6 i r,a7]
     ·rw[q.9.4 i r,c6.o]
    have a8:=Aa b3;obtain⟨j0,hj,f3,f5,f6⟩:=Aj Du;have HJ:=Aa hj;have g9:=Aa f3;have h2:=Aa f5;have h6:=Aa f6;clear hj f3 f5 f6 a6 a7 b3 HK c3;go_wp2;go_loopw[10,92] (λl i0 W=>∃j:Nat,j<=z/\i0=Z J j/\Hid (W.ownsRow m.1.size 84 5 l (AU (s3.take j) D).length (AS (AU (s3.take j) D)))/\ae m.1.size m W) (λ_ i0 _=>z-(aK i0).toNat);case atStart=>exact⟨0,aH _,rfl,Aa (aw _ _ _ _),ad _ _⟩
    case round=>
     obtain⟨j,hj,rfl,X,f⟩:=hrel;obtain⟨N,i8⟩:∃N,N=wr:=⟨_,rfl⟩;subst i8;by_cases b6:j<z
     ·obtain⟨x,hx⟩:∃x,s3[j]?=G x:=⟨_,ag (by rw[Hz.o];exact b6)⟩;obtain⟨t,rfl,i6,d9⟩:=g8.o j x hx;obtain⟨d0,d1,d2,d3,d4⟩:=GX (λk hk=>(f.cell (p:=⟨t,j*5+k,I⟩) i6).trans (d9 k hk));have d6:Hid (AU (s3.take (j+1)) D=AU (s3.take j) D++AC x D):=Aa (by rw[aF,hx,aL,GM]);have n3:(AU (s3.take j) D).length<=1000000:=by
       have q1:=Jp (s3.take j) D;have q2:(s3.take j).length<=1000:=by rw[aD];omega
       have q3:(s3.take j).length*D.length<=1000*1000:=bE q2 (by rw[Hy.o];exact hy);omega
      obtain⟨W3,b5⟩:∃W3,N.alloc (aB #[Z J x.1,Z J x.2,E x.3,E x.4,Z J x.5] 84)=W3:=⟨_,rfl⟩;have b2:ae m.1.size m W3:=by rw[<-b5];exact f.alloc f.4 _
      have c8:Hid (W3.ownsRow m.1.size 84 5 u10 (AU (s3.take j) D++AC x (D.take 0)).length (AS (AU (s3.take j) D++AC x (D.take 0)))):=Aa (by rw[<-b5,bD,show AC x []=[]from rfl,aN];exact X.o.alloc _);have a:Hid (Blk W3 N.1.size #[Z J x.1,Z J x.2,E x.3,E x.4,Z J x.5] 84/\¬u10.ownBlock=G N.1.size):=Aa ⟨by rw[<-b5];exact Blk.new N _ 84,λe=>by obtain⟨c,hc⟩:=AD X.o e;have:=(Y.1 hc).1;omega⟩;obtain⟨a2,-⟩:=c5.o W3 b2;clear d9 hx;go_wp2;go_loopw[10,103] (λl i0 W=>∃q:Nat,q<=y/\i0=Z J q/\Hid (W.ownsRow m.1.size 84 5 l (AU (s3.take j) D++AC x (D.take q)).length (AS (AU (s3.take j) D++AC x (D.take q))))/\ae m.1.size m W/\Hid (Blk W N.1.size #[Z J x.1,Z J x.2,E x.3,E x.4,Z J x.5] 84/\¬l.ownBlock=G N.1.size)) (λ_ i0 _=>y-(aK i0).toNat);case atStart=>exact⟨0,aH _,rfl,c8,b2,a⟩
      case round=>
       clear c8 a a2 d0 d1 d2 d3 d4 b2 X;obtain⟨q,hq,rfl,X,f,a⟩:=hrel;by_cases i7:q<y
       ·obtain⟨d,hd⟩:∃d,D[q]?=G d:=⟨_,ag (by rw[Hy.o];exact i7)⟩;obtain⟨gd,rfl,i5,f1⟩:=g6.o q d hd;have e0:=(f.cell (p:=⟨gd,q,I⟩) i5).trans f1;have d5:Hid (AC x (D.take (q+1))=AC x (D.take q)++if x.1=d then [x]else []):=Aa (by rw[aF,hd,aL,FN]);have n4:(AC x (D.take q)).length<=1000:=ay (Fo _ _) (by rw[aD];omega);have y0:=a.o.1.cell 0;have y1:=a.o.1.cell 1;have y2:=a.o.1.cell 2;have y3:=a.o.1.cell 3;have y4:=a.o.1.cell 4;simp at y0 y1 y2 y3 y4;clear hd f1;by_cases B:x.1=d
        ·have A:Hid (AS (AU (s3.take j) D++AC x (D.take (q+1)))=AS (AU (s3.take j) D++AC x (D.take q))++mc x/\(AU (s3.take j) D++AC x (D.take (q+1))).length=(AU (s3.take j) D++AC x (D.take q)).length+1):=Aa (by rw[d5.o,if_pos B,<-bq,B7,af (bs:=[x])];exact⟨rfl,rfl⟩);have j1:(x.1==d)=ao:=by simpa using B
         have c2:(AU (s3.take j) D++AC x (D.take q)).length<=2000000:=by rw[af];omega
         have c9:=Aa (X.o.alloc (aB #[Z J x.1,Z J x.2,E x.3,E x.4,Z J x.5] 84));have b4:=f.alloc f.4 (aB #[Z J x.1,Z J x.2,E x.3,E x.4,Z J x.5] 84);have h7:=Aa (Cq (w:=wr) x);have d8:Hid (N.1.size<wr.1.size):=Aa (Y.1 a.o.1).1;subst B;go_wp2_with(at_builtin;go_must(refine bc _ rfl _ _ 22 rfl m.1.size 84 j0 _ 5 56 aQ HJ.o g9.o h2.o h6.o rfl oD u10 _ _ rfl c9.o ⟨wr.1.size,0,I⟩ 1 1 (mc x) rfl rfl h7.o (Cu _) (by unfold aU;omega) O b4.4 ?_));intro v5 w5 H f2 _ f9;have i4:ae m.1.size m w5:=AB b4 c9.o f2 b4.4 (ah _);have d7:Hid (Blk w5 N.1.size #[Z J x.1,Z J x.2,E x.3,E x.4,Z J x.5] 84/\¬v5.ownBlock=G N.1.size):=Aa ⟨(f2.5 _ (by have:=d8.o;simp;omega) (λe=>a.o.2 e.symm)).trans (a.o.1.alloc _),λe=>f9.elim (λh=>a.o.2 (h▸e)) (λh=>by
          rw[h]at e;have:=d8.o;injection e with e;first|omega|(simp at e;omega)
          )⟩;go_wp2;go_roundw;case rel=>exact⟨q+1,O,by go_num,Aa (by rw[A.o.1,A.o.2,af];exact H),i4,d7⟩
         case measure=>simp[aK];omega
        ·have j1:(x.1==d)=am:=by simpa using B
         have A:Hid (AC x (D.take (q+1))=AC x (D.take q)):=Aa (by rw[d5.o,if_neg B,aN]);clear B;go_wp2;go_roundw;case rel=>exact⟨q+1,O,by go_num,Aa (by rw[A.o];exact X.o),f,a⟩
         case measure=>simp[aK];omega
       ·obtain rfl:q=y:=O;have A:Hid (AU (s3.take j) D++AC x (D.take q)=AU (s3.take (j+1)) D):=Aa (by rw[d6.o,show D.take q=D from aj (by rw[Hy.o];exact ah _)]);rw[A.o]at X;go_wp2;go_roundw;case rel=>exact⟨j+1,O,by go_num,X,f⟩
        case measure=>simp[aK];omega
     ·obtain rfl:j=z:=O;obtain⟨-,i1⟩:=c5.o _ f;rw[show s3.take j=s3 from aj (by rw[Hz.o];exact ah _)]at X;have HF:=Aa (b0.o N u10 (Ab a8.o a8.o.4 f) (H4.o.below f).shut (AW X.o a8.o.4));clear f;go_wp2;exact HF.o
def Vb(st:AV)(s:ByteArray):Int:=if(AK st.3 s).isSome=ao then CG st else 7
def SA(st:AV)(s:ByteArray):AV:=if(AK st.3 s).isSome=ao then(if CG st=0 then{Ba st with nl:=CV st.3 s}else Ba st)else st
theorem RY(L:Nat->Prop)(R:Nat)(st:AV)(s:ByteArray)(w:aq)(h:Rx L R st w)(V:st.3.length<=1000)(hu:0<=st.11/\st.11<=1000000)(B:st.13=ao->0<=st.14):aC T 56 #[C (G ⟨R,0,I⟩),E s] w λe w'=>e=ab (Z J (Vb st s))/\Rx L R (SA st s) w'/\Only w w' (λx=>¬L x):=by
 have n:Hid (Vb st s=if(AK st.3 s).isSome=ao then CG st else 7):=Aa rfl;have HS:Hid (SA st s=if(AK st.3 s).isSome=ao then(if CG st=0 then{Ba st with nl:=CV st.3 s}else Ba st)else st):=Aa rfl;generalize Vb st s=re at n⊢;generalize SA st s=rs at HS⊢;have HX:=Aa h;obtain⟨M,cs,P,P1,g,nv,uv,dv,D⟩:=h.open;have f:=Aa (LC R nv st.3 s w D.refN V);obtain⟨y,S⟩:∃y,Hid (Sz (AK st.3 s)=y):=⟨_,rfl⟩;obtain⟨q,Hq⟩:∃q,Hid ((AK st.3 s).isSome=q):=⟨_,rfl⟩;rw[S.o,Hq.o]at f;rw[Hq.o]at n HS;obtain⟨yn,yt,yh⟩:=y;simp only[Nm.val]at f;have HWr:Hid (∀W,ae w.1.size w W->aC T 44 #[C (G ⟨R,0,I⟩)] W λe w'=>e=ab (Z J (CG st))/\Yv L R M g nv uv dv (Ba st) W w'):=Aa (λW hB=>CT st W (D.below hB) hu B);obtain⟨we,v⟩:∃q,Hid (CG st=q):=⟨_,rfl⟩;rw[v.o]at HWr n HS;clear h D S;cases q
 ·have A:re=7:=by rw[n.o,if_neg oD]
  have u:Hid (rs=st):=Aa (by rw[HS.o,if_neg oD]);subst A;go_enter cd,bY;go_wp2_with(go_at_call 117;go_must(refine f.o.mono ?_);rintro e w1 ⟨rfl,b⟩;refine ac ?_);refine Aa ?_;have d:=b.alloc b.4 (aB #[E yn,E yt,Z J yh] 45);go_wp2;go_ret;rw[u.o];exact⟨rfl,HX.o.below d,ak d⟩
 ·rw[if_pos rfl]at n HS;have A:re=we:=n.o;subst A;go_enter cd,bY;go_wp2_with(go_at_call 117;go_must(refine f.o.mono ?_);rintro e w1 ⟨rfl,b⟩;refine ac ?_);refine Aa ?_;have d:=b.alloc b.4 (aB #[E yn,E yt,Z J yh] 45);have l:=Aa (HWr.o _ d);have r:=Aa d;clear HWr b d f;go_wp2_with(go_at_call 44;go_must(refine l.o.mono ?_);rintro e w2 ⟨rfl,a⟩;refine ac ?_);refine Aa ?_;obtain⟨z,P2,P3,a,m⟩:=a;have i:Only w w2 (λx=>¬L x):=(ak r.o).thenL m;by_cases j:re=0;case neg=>
   have a1:(re==0)=am:=by simpa using j
   have HR:Hid (Rx L R rs w2/\Only w w2 (λx=>¬L x)):=Aa ⟨by rw[HS.o,if_neg j];exact a.shut,i⟩;clear a m i j l;go_wp2;go_ret;exact⟨rfl,HR.o⟩
  subst j;obtain⟨p,e2,e3,e4,e5,e6,e7,e8,e9,a0⟩:=Fi st;have t:Hid (aC T 118 #[C (G ⟨R,1,I⟩),E s] w2 λe w'=>e=ab (Z J 0)/\Hid (Rx L R rs w'/\Only w w' (λx=>¬L x))):=Aa ((Ik R nv (Ba st).3 s w2 a.refN (by rw[p];exact V)).mono (λe w' q=>by
   obtain⟨q1,⟨v',q2,Q⟩,q4⟩:=q;have hF:From w2 nv v':=λc U=>by
    rcases Q with rfl|Q
    ·exact ai U
    ·exact ax (Q c U)
   obtain⟨r1,X,r3⟩:=a.names q2 hF q4;have hz:CW (Ba st).3 s=0:=by unfold CW;rw[p,if_pos Hq.o]
   refine⟨by rw[q1,hz],Aa ?_⟩;rw[HS.o,if_pos rfl];obtain⟨t1,t2⟩:=a.fin (st':={Ba st with nl:=CV st.3 s}) (cs':=z.setIfInBounds 1 v') r1 (by rw[p]at X;exact X) r3
    (a.9.of (λk hk=>by rw[F,if_neg O]) ⟨rfl,rfl,rfl,rfl,rfl,rfl,rfl,rfl,rfl⟩) ⟨a.wf.1,λx hx N=>a.wf.2 x (by rw[p];exact IF hx) N,a.wf.3,a.wf.4⟩;exact⟨t1,i.thenL t2⟩));clear a m i l;go_wp2_with(go_at_call 118;go_must(refine t.o.mono ?_);rintro e w3 ⟨rfl,H⟩;refine ac ?_);refine Aa ?_;go_wp2;go_ret;exact⟨rfl,H.o⟩
theorem RU.nilD{R:Nat}{w:aq}{f cs':Array au}{g:AN->Option Nat}{nv:au}{uv dv:Nat->au}{nl:List Nm}{did:Nat->List Dd}{db:Nat->List Int}(h:RU w R f nl did db g nv uv dv){u:Nat}(j:u<4)(c:cs'[14+u]?=G (aa I 0 0))(e:∀k,k≠14+u->cs'[k]?=f[k]?):RU w R cs' nl did (Ae db u []) g nv uv (Ae dv u (aa I 0 0)):=by
 refine⟨(e 1 O).trans h.1,h.2,λv a=>(e _ O).trans (h.3 v a),h.4,h.5,λv a=>?_,λv a=>?_,λv x c a hx d b=>?_⟩
 ·by_cases q:v=u
  ·subst q;rw[Ad];exact c
  ·rw[Ac _ _ q];exact(e _ O).trans (h.6 v a)
 ·by_cases q:v=u
  ·subst q;rw[Ad,Ad];exact aw _ _ _ _
  ·rw[Ac _ _ q,Ac _ _ q];exact h.7 v a
 ·by_cases q:v=u
  ·subst q;rw[Ad]at b;simp[av]at b
  ·rw[Ac _ _ q]at b;by_cases i:x=u
   ·subst i;rw[Ad];simp[av]
   ·rw[Ac _ _ i];exact h.8 v x c a hx d b
def Im(st:AV)(far a:Int):Int:=if A0 st.5 far=ao then(if st.12=ao then 6 else if st.8 far.toNat=[]\/a≠st.9 far.toNat then 8 else CG st)else 2
def Ut(st:AV)(i:Nat):AV:={Ba st with Q:=As st.Q (aG i) (Ai (st.8 i) (st.Q (aG i))),db:=Ae st.8 i []}
theorem Wo(L:Nat->Prop)(R:Nat)(st:AV)(far c:Int)(w:aq)(h:Rx L R st w)(hu:0<=st.11/\st.11<=1000000)(c3:st.13=ao->0<=st.14)(hl:∀l,(st.Q l).length<=1000)(D:∀i,(st.8 i).length<=1000):aC T 62 #[C (G ⟨R,0,I⟩),Z J far,Z J c] w λe w'=>e=ab (Z J (Im st far c))/\Rx L R (if Im st far c=0 then Ut st far.toNat else if Im st far c=14 then Ba st else st) w'/\Only w w' (λx=>¬L x):=by
 have H:Hid (Im st far c=if A0 st.5 far=ao then(if st.12=ao then 6 else if st.8 far.toNat=[]\/c≠st.9 far.toNat then 8 else CG st)else 2):=Aa rfl;obtain⟨rs,t⟩:∃q,Hid ((if Im st far c=0 then Ut st far.toNat else if Im st far c=14 then Ba st else st)=q):=⟨_,rfl⟩;rw[t.o];generalize Im st far c=re at H t⊢;have HX:=Aa h;obtain⟨M,cs,P,P1,g,nv,uv,dv,B⟩:=h.open;have c0:=(B.s.cell 0).trans B.9.1;have HA:=Aa (EG R st.5 far w c0);obtain⟨b,Hb⟩:∃b,Hid (A0 st.5 far=b):=⟨_,rfl⟩;rw[Hb.o]at HA H;cases b
 ·have he:re=2:=by rw[H.o,if_neg oD]
  subst he;have f:Hid (rs=st):=Aa (by rw[<-t.o,if_neg oD,if_neg oD]);clear h B hl D;go_enter bm,bh;go_wp2_with(go_at_call 47;go_must(refine HA.o.mono ?_);rintro e w1 ⟨rfl,rfl⟩;refine ac ?_);refine Aa ?_;go_wp2;go_ret;rw[f.o];exact⟨rfl,HX.o,aJ _ _⟩
 obtain⟨⟨k0,k4⟩,-⟩:=Bh.1 Hb.o;obtain⟨i,c4⟩:∃i:Nat,far=(i:Int):=⟨far.toNat,O⟩;subst c4;simp only[aA]at H t;have A:i<4:=O;obtain⟨a,kc,hv⟩:=Ah (B.u.7 i A);have a0:=(B.s.cell (14+i)).trans (B.u.6 i A);rw[hv]at a0;have c2:=(B.s.cell (18+i)).trans (B.9.4 i A);have c27:=(B.s.cell 27).trans B.9.7;obtain⟨z,Hz⟩:∃z,Hid ((st.8 i).length=z):=⟨_,rfl⟩;rw[Hz.o]at a0;have d0:z<=1000:=by rw[<-Hz.o];exact D i
 have HWr:=Aa (CT st w B hu c3);obtain⟨dn,c1⟩:∃q,Hid (st.12=q):=⟨_,rfl⟩;rw[c1.o]at c27 H;obtain⟨md,a2⟩:∃q,Hid (st.9 i=q):=⟨_,rfl⟩;rw[a2.o]at c2;obtain⟨we,a7⟩:∃q,Hid (CG st=q):=⟨_,rfl⟩;rw[a7.o]at HWr H;cases dn;case true=>
  have he:re=6:=by rw[H.o];simp
  subst he;have f:Hid (rs=st):=Aa (by rw[<-t.o,if_neg oD,if_neg oD]);clear h B hl D hv HWr;go_enter bm,bh;go_wp2_with(go_at_call 47;go_must(refine HA.o.mono ?_);rintro e w1 ⟨rfl,rfl⟩;refine ac ?_);refine Aa ?_;go_wp2;go_ret;rw[f.o];exact⟨rfl,HX.o,aJ _ _⟩
 by_cases h0:z=0
 ·have hd:st.8 i=[]:=aX.1 (by rw[Hz.o];exact h0);have he:re=8:=by rw[H.o];simp[hd]
  subst he;subst h0;have f:Hid (rs=st):=Aa (by rw[<-t.o,if_neg oD,if_neg oD]);clear h B hl D hv HWr hd;go_enter bm,bh;go_wp2_with(go_at_call 47;go_must(refine HA.o.mono ?_);rintro e w1 ⟨rfl,rfl⟩;refine ac ?_);refine Aa ?_;go_wp2;go_ret;rw[f.o];exact⟨rfl,HX.o,aJ _ _⟩
 have hd:¬st.8 i=[]:=λe=>h0 (by rw[<-Hz.o,e];rfl);have c9:((z:Int)==0)=am:=by rw[beq_eq_false_iff_ne];omega
 by_cases V:c=md;case neg=>
  have he:re=8:=by rw[H.o];simp[a2.o,V]
  subst he;have c8:(c==md)=am:=by simpa using V
  have f:Hid (rs=st):=Aa (by rw[<-t.o,if_neg oD,if_neg oD]);clear h B hl D hv HWr hd V h0;go_enter bm,bh;go_wp2_with(go_at_call 47;go_must(refine HA.o.mono ?_);rintro e w1 ⟨rfl,rfl⟩;refine ac ?_);refine Aa ?_;go_wp2;go_ret;rw[f.o];exact⟨rfl,HX.o,aJ _ _⟩
 have he:re=we:=by rw[H.o];simp[hd,a2.o,V]
 subst he;subst V;have HL:=Aa hl;have Hv:=Aa hv;clear h B hv hl D hd h0 H;go_enter bm,bh;go_wp2_with(go_at_call 47;go_must(refine HA.o.mono ?_);rintro e w1 ⟨rfl,rfl⟩;refine ac ?_);refine Aa ?_;go_wp2_with(go_at_call 44;go_must(refine HWr.o.mono ?_);rintro e w2 ⟨rfl,p⟩;refine ac ?_);refine Aa ?_;by_cases X:re=0;case neg=>
  have c5:(re==0)=am:=by simpa using X
  have n:Hid (Rx L R rs w2/\Only w w2 (λx=>¬L x)):=Aa (by
   obtain⟨r,P2,P3,q1,q2⟩:=p;refine⟨?_,q2⟩;rw[<-t.o,if_neg X];split
   ·exact q1.shut
   ·rename_i h14;have e:Ba st=st:=by unfold Ba;rw[a7.o,if_neg X,if_neg h14]
    have q3:=q1.shut;rw[e]at q3;exact q3);clear p X HWr;go_wp2;go_ret;exact⟨rfl,n.o⟩
 subst X;have f:Hid (rs=Ut st i):=Aa (by rw[<-t.o,if_pos rfl]);obtain⟨e1,e2,e3,e4,e5,e6,e7,e8,e9,c7⟩:=Fi st;obtain⟨r,P2,P3,p,a9⟩:=p;obtain⟨P6,g1,g2,g3,g4,g5⟩:=p.s.freshT;have a1:∀x,P6 x->P3 x:=λx hx=>(g1.2 x hx).elim (λy=>y) (λy=>by have:=g2 x hx;omega);have a5:Hid (∀W,Only w2 W P6->∀(j:Nat) d,(st.8 i)[j]?=G d->∃b,a=G ⟨b,0,I⟩/\b<W.1.size/\W.cell? ⟨b,j,I⟩=G (Z J d)):=Aa (λW hW j d hj=>by
  have b4:=(al.1 hj).1;have q:=p.u.7 i A;rw[Hv.o,e5]at q;rcases q.2 with⟨q1,q2⟩|⟨b,cap,cur,q1,hb,hg,-⟩
  ·omega
  ·cases q1;have b1:=(Y.1 hg).1;exact⟨b,rfl,az b1 hW.4,(hW.cell b1 (g3 b _ 3 hg oD oD oD)).trans ((q.cellAt j O).trans (by rw[bO,hj];rfl))⟩);obtain⟨bw,b3,b2⟩:=p.s.ways i A;have a4:=g5 w2 (ad _ _);obtain⟨N,HN⟩:∃q,Hid ((Ba st).N=q):=⟨_,rfl⟩;rw[e2,HN.o]at a4;have a0:w2.cell? ⟨R,14+i,I⟩=G (aa a z kc):=by have q:=(p.s.cell (14+i)).trans (p.u.6 i A);rw[Hv.o,Hz.o]at q;exact q
 have a6:Hid (Rs w2 P6 R M r g (As st.Q (aG i) (Ai ((st.8 i).take 0) (st.Q (aG i)))) N w2):=Aa (by rw[show Ai ((st.8 i).take 0) (st.Q (aG i))=st.Q (aG i)from rfl,En];exact a4);have b5:Hid (∀Q' W,Rs w2 P6 R M r g Q' N W->W.cell? ⟨R,3+i,I⟩=G (C (G ⟨bw,0,I⟩))/\W.cell? ⟨R,14+i,I⟩=G (aa a z kc)/\W.frozen? ⟨R,14+i,I⟩=am):=Aa (λQ' W hh=>⟨(hh.cell (3+i)).trans b2,by have q:=(hh.cell (14+i)).trans (p.u.6 i A);rw[Hv.o,Hz.o]at q;exact q,hh.free _⟩);have b9:Hid (∀j id W,Rs w2 P6 R M r g (As st.Q (aG i) (Ai ((st.8 i).take j) (st.Q (aG i)))) N W->aC T 135 #[C (G ⟨bw,0,I⟩),Z J id] W λe w'=>(∃m:Mg,∃k,e=ab (aI #[m.val,Z J k]))/\Rs w2 P6 R M r g (As st.Q (aG i) (D6 id (Ai ((st.8 i).take j) (st.Q (aG i))))) N w'):=Aa (λj id W hh=>(JA (aG i) bw id W hh b3 (by rw[AE];exact ay (DT _ _).1 (HL.o _))).mono (λe w' q=>by have q2:=q.2;rw[AE,Sk]at q2;exact⟨q.1,q2⟩));have n:=Aa p;have S:=Aa a1;have b6:=Aa a9;clear p a9 g1 g2 g3 g4 g5 a4 a1 HWr b2 b3;go_wp2;go_loopw[48] (λx W=>∃j:Nat,j<=z/\x=Z J j/\Hid (Rs w2 P6 R M r g (As st.Q (aG i) (Ai ((st.8 i).take j) (st.Q (aG i)))) N W)) (λx _=>z-(aK x).toNat);case atStart=>exact⟨0,aH _,rfl,a6⟩
 case round=>
  clear a6 a0;obtain⟨j,hj,rfl,hR⟩:=hrel;obtain⟨d3,c6,f14⟩:=b5.o _ wr hR.o;by_cases b4:j<z
  ·obtain⟨id,a3⟩:∃id,(st.8 i)[j]?=G id:=⟨_,ag (by rw[Hz.o];exact b4)⟩;obtain⟨b,rfl,hb,hc⟩:=a5.o wr hR.o.ev j id a3;have b8:=Aa (FY (st.8 i) j id a3);have HT:=Aa (b9.o j id wr hR.o);clear a3;go_wp2_with(go_at_call 135;go_must(refine HT.o.mono ?_);rintro e w3 ⟨⟨mg,k,rfl⟩,b0⟩;refine ac ?_);refine Aa ?_;have b7:Hid (Rs w2 P6 R M r g (As st.Q (aG i) (Ai ((st.8 i).take (j+1)) (st.Q (aG i)))) N w3):=Aa (by rw[b8.o,GN];exact b0);clear b0 HT hR;go_wp2;go_roundw;case rel=>exact⟨j+1,O,by go_num,b7⟩
   case measure=>simp[aK];omega
  ·obtain rfl:j=z:=O;have HT:Hid ((st.8 i).take j=st.8 i):=Aa (aj (by rw[Hz.o];exact ah _));have U:=hR.o;rw[HT.o]at U;have HF:Hid (Rx L R rs (wr.setCell ⟨R,14+i,I⟩ (aa I 0 0))/\Only w (wr.setCell ⟨R,14+i,I⟩ (aa I 0 0)) (λx=>¬L x)):=Aa (by
    rw[f.o];have sz:=n.o.s.size;have a8:∀k,k≠14+i->(r.setIfInBounds (14+i) (aa I 0 0))[k]?=r[k]?:=λk hk=>by rw[F,if_neg O]
    have hs:=U.set (14+i) (aa I 0 0) O;obtain⟨q1,q2⟩:=n.o.fin (st':=Ut st i) (cs':=r.setIfInBounds (14+i) (aa I 0 0)) (nv':=nv) (uv':=uv) (dv':=Ae dv i (aa I 0 0)) (g':=g) (by
     have q:=hs.more (λx hx=>n.o.4 x (S.o x hx));rw[<-HN.o]at q;exact q) (by
     have q:=(n.o.u.kept hs.ev (λk hk hp=>n.o.3 k hk (S.o k hp))).nilD A (by rw[F,if_pos rfl,if_pos O]) a8;rw[e5]at q;exact q) (λx hx=>ai (n.o.5 x (by
      rcases hx with hx|hx|⟨v,hv,hx⟩
      ·exact ai hx
      ·exact ax (ai hx)
      ·by_cases q:v=i
       ·subst q;rw[Ad]at hx;simp[av]at hx
       ·rw[Ac _ _ q]at hx;exact ax (ax ⟨v,hv,hx⟩))))
     (n.o.9.of (λk hk=>a8 k O) ⟨rfl,rfl,rfl,rfl,rfl,rfl,rfl,rfl,rfl⟩) ⟨n.o.wf.1,n.o.wf.2,n.o.wf.3,n.o.wf.4⟩;exact⟨q1,b6.o.thenL q2⟩);clear U hR;go_wp2;go_ret;exact⟨rfl,HF.o⟩
def Ww(R k i:Nat):au:=if k<i then C (G ⟨R+1+k,0,I⟩)else C I
def Ou(id:Int)(M R i:Nat):Array au:=#[Z J id,aa I 0 0,bU (G M),Ww R 0 i,Ww R 1 i,Ww R 2 i,Ww R 3 i,aa I 0 0,aa I 0 0,aa I 0 0,aa I 0 0,aa I 0 0,Z J 0,Z J 0,aa I 0 0,aa I 0 0,aa I 0 0,aa I 0 0,Z J 0,Z J 0,Z J 0,Z J 0,Z J 0,Z J 0,Z J 0,Z J 0,Z J 0,aM am,aM am,Z J 0]
structure NHs(w:aq)(id:Int)(R i:Nat)(W:aq):Prop where
 low:w.1.size+2<=R
 bel:ae w.1.size w W
 size:W.1.size=R+1+i
 map:QM W w.1.size 1 (λt=>if t=Al then G (w.1.size+1)else I)
 dead:Blk W (w.1.size+1) #[aa I 0 0] 126
 here:Blk W R (Ou id w.1.size R i) 68
 ways:∀k,k<i->Blk W (R+1+k) #[aa I 0 0] 126
theorem Rl(id:Int)(M R i:Nat)(hi:i<4):(Ou id M R i).setIfInBounds (3+i) (C (G ⟨R+1+i,0,I⟩))=Ou id M R (i+1):=by
 match i,hi with
 |0,_=>rfl
 |1,_=>rfl
 |2,_=>rfl
 |3,_=>rfl
theorem V5(id:Int)(M R i:Nat)(hi:i<4):(Ou id M R i)[3+i]?=G (C I):=by
 match i,hi with
 |0,_=>rfl
 |1,_=>rfl
 |2,_=>rfl
 |3,_=>rfl
theorem NHs.step{w W:aq}{id:Int}{R i:Nat}(h:NHs w id R i W)(hi:i<4):NHs w id R (i+1) ((W.alloc (aB #[aa I 0 0] 126)).setCell ⟨R,3+i,I⟩ (C (G ⟨W.1.size,0,I⟩))):=by
 have g:=h.6.alloc (aB #[aa I 0 0] 126);have c:=h.3;have f:=h.1;have j:=Blk.new W #[aa I 0 0] 126;have b:=Below.heap_setCell (W.alloc (aB #[aa I 0 0] 126)) ⟨R,3+i,I⟩ (C (G ⟨W.1.size,0,I⟩));refine⟨h.1,?_,oO,?_,?_,?_,λk d=>?_⟩
 ·have a:=h.2.alloc h.2.4 (aB #[aa I 0 0] 126);exact⟨a.1,a.2,a.3,by simpa using a.4,λk d=>(b k oO).trans (a.5 k d)⟩
 ·exact h.4.same ((b _ oO).trans (ba _ _ _ h.4.lt))
 ·exact(b _ oO).trans (h.5.alloc _)
 ·have q:=g.set (3+i) (C (G ⟨W.1.size,0,I⟩));rw[c]at q⊢;rw[Rl _ _ _ _ hi]at q;exact q
 ·by_cases e:k=i
  ·subst e;rw[<-c];exact(b _ oO).trans j
  ·exact(b _ oO).trans ((h.7 k O).alloc _)
def LB(id:Int):AV:={Q:=λ_=>[],N:=1,nl:=[],did:=λ_=>[],id:=id,cnt:=0,best:=0,db:=λ_=>[],md:=λ_=>0,ar:=λ_=>0,used:=0,down:=am,off:=am,left:=0}
def ZA(w:aq)(R:Nat):AN->Option Nat
 |.inl s=>if s=Al then some (w.1.size+1)else none
 |.inr i=>if i<4 then some (R+1+i)else none
theorem NHs.fin{w W:aq}{id:Int}{R:Nat}(h:NHs w id R 4 W){L:Nat->Prop}(q:∀x,L x->x<w.1.size):Rx L R (LB id) W:=by
 have o:=h.1;have r:RS W R w.1.size 1 (Ou id w.1.size R 4) (ZA w R) (λ_=>aa I 0 0) (λ_=>[]):=by
  refine⟨⟨λl b f=>?_,λl n b f a=>?_,λl n b b' c _ _ _ j=>?_⟩,h.4,h.6,rfl,rfl,λi hi=>?_,λ_=>ID,λ_ _=>rfl⟩
  ·refine⟨?_,aw _ _ _ _⟩;cases l with
   |inl s=>
    simp only[ZA]at f;split at f
    ·obtain rfl:=an f;exact h.5
    ·cases f
   |inr i=>
    simp only[ZA]at f;split at f
    ·obtain rfl:=an f;exact h.7 i oA
    ·cases f
  ·cases l with
   |inl s=>
    simp only[ZA]at f;split at f
    ·rename_i e;obtain rfl:=an f;cases n with
     |inl s'=>
      simp only[ZA]at a;split at a
      ·rename_i e';rw[e,e']
      ·cases a
     |inr i'=>
      simp only[ZA]at a;split at a
      ·have:=an a;omega
      ·cases a
    ·cases f
   |inr i=>
    simp only[ZA]at f;split at f
    ·obtain rfl:=an f;cases n with
     |inl s'=>
      simp only[ZA]at a;split at a
      ·have:=an a;omega
      ·cases a
     |inr i'=>
      simp only[ZA]at a;split at a
      ·have:=an a;have:i=i':=O;rw[this]
      ·cases a
    ·cases f
  ·simp[av]at j
  ·refine⟨R+1+i,by simp only[ZA];rw[if_pos hi],?_⟩;match i,hi with
   |0,_=>rfl
   |1,_=>rfl
   |2,_=>rfl
   |3,_=>rfl
 have m:Rs w (λ_=>False) R w.1.size (Ou id w.1.size R 4) (ZA w R) (LB id).Q (LB id).N W:=⟨1,_,r,⟨(ak (P:=λ_=>False) h.2),λk g=>ax (by
  rcases g with⟨l,b,f,g⟩|g|g
  ·rcases g with rfl|g
   ·cases l with
    |inl s=>
     simp only[ZA]at f;split at f
     ·have:=an f;omega
     ·cases f
    |inr i=>
     simp only[ZA]at f;split at f
     ·have:=an f;omega
     ·cases f
   ·simp[av]at g
  ·omega
  ·omega)⟩,ah _⟩;refine(PR (st:=LB id) (nv:=aa I 0 0) (uv:=λ_=>aa I 0 0) (dv:=λ_=>aa I 0 0) m ⟨rfl,aw _ _ _ _,λu p=>?_,λu p=>aw _ _ _ _,λu v c _ _ _ j=>by simp[av]at j,λi hi=>?_,λi hi=>aw _ _ _ _,λu v c _ _ _ j=>by simp[av]at j⟩ (λx hx=>?_) (λ_ _ h=>h) q ⟨rfl,rfl,rfl,λi hi=>?_,λi hi=>?_,rfl,rfl,rfl,0,rfl,λh=>(by cases h),oD,oD⟩ ⟨⟨w.1.size+1,by simp[ZA]⟩,λx hx=>(by cases hx),λi hi=>by simp only[ZA];rw[if_neg O],λu _ d t=>by cases t⟩).1
 ·match u,p with
  |0,_=>rfl
  |1,_=>rfl
  |2,_=>rfl
  |3,_=>rfl
  |4,_=>rfl
 ·match i,hi with
  |0,_=>rfl
  |1,_=>rfl
  |2,_=>rfl
  |3,_=>rfl
 ·rcases hx with hx|⟨_,_,hx⟩|⟨_,_,hx⟩<;>simp[av]at hx
 ·match i,hi with
  |0,_=>rfl
  |1,_=>rfl
  |2,_=>rfl
  |3,_=>rfl
 ·match i,hi with
  |0,_=>rfl
  |1,_=>rfl
  |2,_=>rfl
  |3,_=>rfl
theorem XQ(L:Nat->Prop)(id:Int)(w:aq)(u:∀x,L x->x<w.1.size):aC T 11 #[Z J id] w λe w'=>∃R,e=ab (C (G ⟨R,0,I⟩))/\Hid (w.1.size<=R/\Rx L R (LB id) w'/\ae w.1.size w w'):=by
 have y:=@run_makeMap T;have g:QM ((w.alloc (.map #[] 0)).alloc (aB #[aa I 0 0] 126)) w.1.size 0 (λ_=>I):=(QM.made w).same (ba _ _ _ oS);obtain⟨b,j,c,a⟩:=g.put59 oD Al (w.1.size+1) oD;have j:(Instr.mapUpdate 59 (bU (G w.1.size)) (E ⟨#[100,101,97,100]⟩) (C (G ⟨w.1.size+1,0,I⟩))).run T ((w.alloc (.map #[] 0)).alloc (aB #[aa I 0 0] 126))=.ok () b:=j;have m:=a.4;simp at m;have n:Hid (NHs w id b.1.size 0 (b.alloc (aB (Ou id w.1.size b.1.size 0) 68))):=Aa (by
  have d:ae w.1.size w b:=by have q:=(((ad w.1.size w).alloc (ah _) (.map #[] 0)).alloc oS (aB #[aa I 0 0] 126));exact⟨a.1.trans q.1,a.2.trans q.2,a.3.trans q.3,O,λk p=>(a.5 k oO (λe=>by injection e with e;omega)).trans (q.5 k p)⟩
  refine⟨O,d.alloc d.4 _,oS,?_,?_,Blk.new b _ 68,λk p=>O⟩
  ·exact c.same (ba _ _ _ c.lt)
  ·have r:=Blk.new (w.alloc (.map #[] 0)) #[aa I 0 0] 126;simp only[World.size_alloc]at r;exact Blk.alloc ((a.5 _ oS (λe=>by injection e with e;omega)).trans r) _);have s:=Aa u;clear g c a;go_enter func11,ntmps11;go_wp2;go_loopw[12] (λv W=>∃i:Nat,i<=4/\v=Z J i/\Hid (NHs w id b.1.size i W)) (λv _=>4-(aK v).toNat);case atStart=>exact⟨0,O,rfl,n⟩
 case round=>
  clear n;obtain⟨i,hi,rfl,f⟩:=hrel;by_cases h:i<4
  ·have t:=Aa (f.o.step h);have l:=f.o.6.alloc (aB #[aa I 0 0] 126);have c3:=(l.cell (3+i)).trans (V5 id w.1.size b.1.size i h);have z:=l.free (3+i);clear l f;go_wp2;go_roundw;case rel=>exact⟨i+1,O,by go_num,t⟩
   case measure=>simp[aK];omega
  ·obtain rfl:i=4:=O;go_wp2;go_ret;exact⟨_,rfl,Aa ⟨O,f.o.fin s.o,f.o.2⟩⟩
end
end Go.Proofs.YtkabgmdjfiidhaaGreatDoor
