import Derived.Test.YtgkcfpbndgfdlaaGreatDoorZHpThere
import Derived.Test.YtgkcfpbndgfdlaaGreatDoorZHcMap
import Derived.Deep.LoopGhost
set_option linter.all false
set_option maxHeartbeats 0
set_option maxRecDepth 99999
open Go.IntKind renaming i64->F,wrap_i64->cb
open Go.Value renaming string->Z,int->I,pointer->af,slice->aD,bool->aJ,nilIface->bl,tuple->bB,iface->bE,agg->bR,map->bS
open Option renaming some->J,none->E,toList_some->be
open List renaming mem_filter->G,mem_append->Y,filter_cons_of_neg->aa,mem_singleton->ab,filter_cons_of_pos->ae,mem_cons_of_mem->ag,setIfInBounds_toArray->ai,length_append->ak,mem_cons_self->am,length_singleton->ao,set_cons_succ->ax,set_cons_zero->ay,pairwise_cons->aA,getElem?_eq_getElem->aF,mem_append_left->aI,mem_map->aM,mem_cons->aP,filter_sublist->aS,map_cons->aT,length_cons->aV,length_filter_le->aW,mem_append_right->aX,length_map->aY,getElem?_set_ne->aZ,mem_of_getElem?->ba,take_add_one->bh,pairwise_append->bj,getElem?_eq_some_iff->bm,pairwise_singleton->bt,take_of_length_le->bv,filter_filter->bC,perm_append_singleton->bF,any_eq_false->bK,length_take->bL,getElem?_set_self->bM,mem_of_mem_take->bP,filter_eq_self->bT,take_sublist->bZ,any_eq_true->ce,length_set->cf,nodup_nil->cg,map_map->ch
open Classical renaming propDecidable->C
open Bool renaming true->ac,false->aj,and_eq_true->bb,not_eq_true'->bH,not_eq_true->ca
open Sum renaming inl->ah,inr->az
open Go.Proofs.Tryz renaming prog->al,underlying3->bw,ntmps99->bA,func99->bD,underlying31->bI,underlying206->bU,underlying209->bV,underlying9->cc
open Go.RowKit renaming Below->an,run_makeMap->cj
open Nat renaming le_refl->au,zero_le->bc,lt_of_lt_of_le->bq,le_trans->bu,le_succ->co
open Go.RowKit.Below renaming refl->av,heap_setCell->bW,heap_alloc->cd
open Go.Ending renaming returned->aw
open Array renaming getElem?_eq_some_iff->aB
open Go.Proofs.YtgkcfpbndgfdlaaGreatDoor renaming Dj->aC,Yb->bO
open Go.AllReadyH renaming cons->aE,nil->aH
open Int renaming toNat_natCast->aG,le_refl->bf
open Or renaming inr->aK,inl->aN
open Go renaming wpAnyH_ready->aL,World->aO,wp_region_held_drew->aQ,maxLen->bd,wpAnyH_done->bp,Calls->bx,unitElem_mk->cm,Value->cq
open Go.Calls renaming mono->aR
open Decidable renaming decide->aU
open List.Pairwise renaming nil->bg,filter->cp
open Go.Act renaming put->bi
open Go.RowKit.Hid renaming out->bk
open Go.Obj renaming cells->bo,map->ci
open Go.Instr renaming lookup->br,mapUpdate->bz
open Go.Lib renaming itoa->bG,hasSuffix->bQ
open Go.World renaming ownsRow_nil->bJ,ownsMap_made->bY
open Option.some renaming inj->bN
namespace Go.Proofs.YtgkcfpbndgfdlaaGreatDoor
section
open Go.RowKit Go.Maps
theorem Pn{i:Int}(h0:0<=i)(h1:i<=1099511627776):(Lit.int F i).wf=ac:=by
 simp only[Lit.wf,bb,decide_eq_true_eq];have a:F.min=-9223372036854775808:=by decide+kernel
 have b:F.max=9223372036854775807:=by decide+kernel
 rw[a,b];omega
def In(id:Int)(x:Mg):Bool:=right x&&aU (x.5=id)&&!decide (x.1%4=id)
theorem Xu(w:aO):(zeroValue 207).run al w=.ok (bR #[]) w:=K
theorem Zu(w:aO):(zeroValue 3).run al w=.ok (I F 0) w:=K
def SetI(w:aO)(B n:Nat)(T:Int->Prop):Prop:=∃D:DataW Unit,w.ownsMap al 3 unitElem B n D/\∀i,has D (.int F i)=ac↔T i
theorem SetI.made(w:aO):SetI (w.alloc (ci #[] 0)) w.1.size 0 (λ_=>False):=⟨.map [],bY w al 3 unitElem,λ_=>by simp[has]⟩
theorem SetI.on{w w':aO}{B n:Nat}{T:Int->Prop}(h:SetI w B n T)(d:w'.1[B]?=w.1[B]?):SetI w' B n T:=by obtain⟨D,⟨b,a,h1,h2⟩,c⟩:=h;exact⟨D,⟨b,a,d.trans h1,h2⟩,c⟩
theorem SetI.lt{w:aO}{B n:Nat}{T:Int->Prop}(h:SetI w B n T):B<w.1.size:=by obtain⟨D,h1,-⟩:=h;exact h1.lt
theorem SetI.cong{w:aO}{B n:Nat}{T T':Int->Prop}(h:SetI w B n T)(e:∀i,T i↔T' i):SetI w B n T':=by obtain⟨D,h1,a⟩:=h;exact⟨D,h1,λi=>(a i).trans (e i)⟩
theorem SetI.look{w:aO}{B n:Nat}{T:Int->Prop}(h:SetI w B n T){i:Int}(h0:0<=i)(h1:i<=1099511627776):∃b,(b=ac↔T i)/\(br 206 (bS (J B)) (I F i) ac).run al w=.ok (bB #[bR #[],aJ b]) w:=by obtain⟨D,d,c⟩:=h;obtain⟨v,ps,a,hv⟩:=d.look_ok Ma bU (Xu w) (zd:=.agg []) (zp:=[]) cm (keyOf_int_mk bw (Pn h0 h1));obtain⟨rfl,-⟩:=unitElem_inv hv;exact⟨_,c i,a⟩
theorem SetI.put{w:aO}{B n:Nat}{T:Int->Prop}(h:SetI w B n T)(k:n<bd){i:Int}(h0:0<=i)(h1:i<=1099511627776):∃w',(bz 206 (bS (J B)) (I F i) (bR #[])).run al w=.ok () w'/\SetI w' B (n+1) (λq=>q=i\/T q)/\w.grownBy w' (J B):=by
 obtain⟨D,f,j⟩:=h;obtain⟨w',b,a,hg⟩:=f.update Ma bU k (keyOf_int_mk bw (Pn h0 h1)) (val:=bR #[]) (d:=.agg []) (ps:=[]) cm;have hk:WideAt.IsKeyLit (.int F i):=trivial;refine⟨w',b,⟨_,a,λq=>?_⟩,hg⟩;by_cases e:q=i
 ·subst e;rw[has_put_same f.isMap hk];simp
 ·have c:(Lit.int F q)≠.int F i:=λg=>e (by injection g);rw[has_put_other c,j q];simp[e]
def CntM(w:aO)(B n:Nat)(c:ByteArray->Nat):Prop:=∃D:DataW Unit,w.ownsMap al 9 (plainElem al 3) B n D/\∀s:ByteArray,D.atKey (.string s.1.1) (.lit (.int F 0))=.lit (.int F (c s:Int))
theorem CntM.made(w:aO):CntM (w.alloc (ci #[] 0)) w.1.size 0 (λ_=>0):=⟨.map [],bY w al 9 _,λ_=>rfl⟩
theorem CntM.on{w w':aO}{B n:Nat}{c:ByteArray->Nat}(h:CntM w B n c)(e:w'.1[B]?=w.1[B]?):CntM w' B n c:=by obtain⟨D,⟨b,a,h1,h2⟩,d⟩:=h;exact⟨D,⟨b,a,e.trans h1,h2⟩,d⟩
theorem CntM.lt{w:aO}{B n:Nat}{c:ByteArray->Nat}(h:CntM w B n c):B<w.1.size:=by obtain⟨D,h1,-⟩:=h;exact h1.lt
theorem CntM.look{w:aO}{B n:Nat}{c:ByteArray->Nat}(h:CntM w B n c)(s:ByteArray)(hs:s.size<=bd):(br 209 (bS (J B)) (Z s) aj).run al w=.ok (I F (c s:Int)) w:=by obtain⟨D,e,d⟩:=h;obtain⟨x,b,a,-⟩:=e.lookup_int Jn bV bw (Zu w) (WideMaps.keyOf_string_mk cc hs);rw[d s]at a;simp only[DataW.lit.injEq,Lit.int.injEq,true_and]at a;rw[b,<-a]
theorem CntM.put{w:aO}{B n:Nat}{c:ByteArray->Nat}(h:CntM w B n c)(j:n<bd)(s:ByteArray)(hs:s.size<=bd)(hc:c s<=1000000):∃w',(bz 209 (bS (J B)) (Z s) (I F ((c s:Int)+1))).run al w=.ok () w'/\CntM w' B (n+1) (λt=>if t=s then c s+1 else c t)/\w.grownBy w' (J B):=by
 obtain⟨D,f,i⟩:=h;obtain⟨w',b,a,hg⟩:=f.update Jn bV j (WideMaps.keyOf_string_mk cc hs) (val:=I F ((c s:Int)+1)) (plainElem_int bw (Pn O O));have hk:WideAt.IsKeyLit (.string s.1.1):=trivial;refine⟨w',b,⟨_,a,λt=>?_⟩,hg⟩;by_cases e:t=s
 ·subst e;rw[atKey_put_same f.isMap hk];show _=DataW.lit (Lit.int F ((if t=t then c t+1 else c t:Nat):Int));rw[if_pos rfl];rfl
 ·have d:(Lit.string t.1.1)≠.string s.1.1:=λg=>e (ByteArray.ext (Array.toList_inj.1 (by injection g)));rw[atKey_put_other d,i t];show _=DataW.lit (Lit.int F ((if t=s then c s+1 else c t:Nat):Int));rw[if_neg e]
structure Pt where
 c:ByteArray->Nat
 q:List Mg
 d:List Mg
def EE(ns:List Nm)(A:ByteArray->List Pl)(p:Pt)(m:Mg):Pt:=if Ek ns m.4=ac/\(A m.4).length+p.c m.4<20 then⟨λt=>if t=m.4 then p.c m.4+1 else p.c t,p.q++[m],p.d⟩else⟨p.c,p.q,p.d++[m]⟩
def Az(ns:List Nm)(A:ByteArray->List Pl)(l:List Mg):Pt:=l.foldl (EE ns A) ⟨λ_=>0,[],[]⟩
theorem FW(ns:List Nm)(A:ByteArray->List Pl)(l:List Mg)(m:Mg):Az ns A (l++[m])=EE ns A (Az ns A l) m:=by unfold Az;rw[List.foldl_append];rfl
theorem Uo(ns:List Nm)(A:ByteArray->List Pl)(p:Pt)(m:Mg):(EE ns A p m).q.length+(EE ns A p m).d.length=p.q.length+p.d.length+1/\∀s,(EE ns A p m).c s<=p.c s+1:=by
 unfold EE;split
 ·refine⟨oO,λs=>?_⟩;show(if s=m.4 then p.c m.4+1 else p.c s)<=_;split
  ·rename_i e;rw[e];exact au _
  ·omega
 ·exact⟨oO,λs=>co _⟩
theorem El(ns:List Nm)(A:ByteArray->List Pl)(l:List Mg):(Az ns A l).q.length+(Az ns A l).d.length=l.length/\∀s,(Az ns A l).c s<=l.length:=by
 suffices h:∀(l:List Mg) (p:Pt),(l.foldl (EE ns A) p).q.length+(l.foldl (EE ns A) p).d.length=p.q.length+p.d.length+l.length/\∀s,(l.foldl (EE ns A) p).c s<=p.c s+l.length by have:=h l ⟨λ_=>0,[],[]⟩;simpa[Az]using this
 intro l;induction l with
 |nil=>intro p;exact⟨rfl,λs=>Nat.le_refl _⟩
 |cons m r ih=>intro p;have h1:=Uo ns A p m;have h2:=ih (EE ns A p m);rw[List.foldl_cons,aV];refine⟨O,λs=>?_⟩;have:=h1.2 s;have:=h2.2 s;omega
theorem CntM.mono{w:aO}{B n a:Nat}{c:ByteArray->Nat}(h:CntM w B n c)(b:n<=a):CntM w B a c:=by obtain⟨D,h1,h2⟩:=h;exact⟨D,h1.mono b,h2⟩
theorem CntM.obj{w:aO}{B n:Nat}{c:ByteArray->Nat}(h:CntM w B n c):∃b a,w.1[B]?=J (ci b a):=by obtain⟨D,⟨b,a,h1,h2⟩,d⟩:=h;exact⟨b,a,h1⟩
structure PtR(w:aO)(B j:Nat)(p:Pt)(vq vd:cq)(W:aO):Prop where
 c:CntM W B j p.c
 q:W.ownsRow w.1.size 52 5 vq p.q.length (AK p.q)
 d:W.ownsRow w.1.size 52 5 vd p.d.length (AK p.d)
 ap:∀c,vq.ownBlock=J c->vd.ownBlock≠J c
 lo:w.1.size<=B
section
variable{w W W':aO}{B j:Nat}{p:Pt}{vq vd v5:cq}{m:Mg}
theorem PtR.ne(h:PtR w B j p vq vd W){c:Nat}(hc:vq.ownBlock=J c\/vd.ownBlock=J c):c<W.1.size/\c≠B:=by obtain⟨f,ck,b⟩:=h.c.obj;have a:∃cs,W.1[c]?=J (bo cs 52 (0,0)):=hc.elim (λe=>Bu h.q e) (λe=>Bu h.d e);obtain⟨cs,a⟩:=a;refine⟨(aB.1 a).1,λe=>?_⟩;subst e;rw[b]at a;cases a
theorem PtR.below(h:PtR w B j p vq vd W)(a:an W.1.size W W'):PtR w B j p vq vd W':=⟨h.c.on (a.5 _ h.c.lt),Au h.q (λc hc=>a.5 c (h.ne (aN hc)).1),Au h.d (λc hc=>a.5 c (h.ne (aK hc)).1),h.4,h.5⟩
theorem PtR.count(h:PtR w B j p vq vd W)(s:ByteArray)(hs:s.size<=bd)(hc:p.c s<=1000000)(hj:j<=1000):∃a,(bz 209 (bS (J B)) (Z s) (I F ((p.c s:Int)+1))).run al W=.ok () a/\PtR w B (j+1) ⟨λt=>if t=s then p.c s+1 else p.c t,p.q,p.d⟩ vq vd a/\W.grownBy a (J B):=by
 obtain⟨a,h1,h2,b⟩:=h.c.put (by unfold bd;omega) s hs hc;refine⟨a,h1,⟨h2,Au h.q (λc hc=>?_),Au h.d (λc hc=>?_),h.4,h.5⟩,b⟩
 ·have q:=h.ne (aN hc);exact b.5 c q.1 (λe=>by injection e with e;exact q.2 e)
 ·have q:=h.ne (aK hc);exact b.5 c q.1 (λe=>by injection e with e;exact q.2 e)
theorem PtR.pushq(h:PtR w B j p vq vd W)(f:W'.ownsRow w.1.size 52 5 v5 (p.q.length+1) (AK p.q++mc m))(hg:W.grownBy W' vq.ownBlock)(b:From W vq v5):PtR w B j ⟨p.c,p.q++[m],p.d⟩ v5 vd W':=by
 refine⟨h.c.on (hg.5 _ h.c.lt (λe=>?_)),by rw[ak,ao,Ei];exact f,Au h.d (λc hc=>hg.5 c (h.ne (aK hc)).1 (λe=>h.4 c e.symm hc)),λc hc a=>?_,h.5⟩
 ·exact(h.ne (aN e.symm)).2 rfl
 ·rcases b c hc with e|e
  ·exact h.4 c e a
  ·have:=(h.ne (aK a)).1;omega
theorem PtR.pushd(h:PtR w B j p vq vd W)(f:W'.ownsRow w.1.size 52 5 v5 (p.d.length+1) (AK p.d++mc m))(hg:W.grownBy W' vd.ownBlock)(b:From W vd v5):PtR w B (j+1) ⟨p.c,p.q,p.d++[m]⟩ vq v5 W':=by
 refine⟨(h.c.on (hg.5 _ h.c.lt (λe=>?_))).mono (co _),Au h.q (λc hc=>hg.5 c (h.ne (aN hc)).1 (λe=>h.4 c hc e.symm)),by rw[ak,ao,Ei];exact f,λc hc a=>?_,h.5⟩
 ·exact(h.ne (aK e.symm)).2 rfl
 ·rcases b c a with e|e
  ·exact h.4 c hc e
  ·have:=(h.ne (aN hc)).1;omega
end
theorem RO(x:Mg)(w:aO):(Instr.buildSlice 31 1 #[(0,bR #[I F x.1,I F x.2,Z x.3,Z x.4,I F x.5])]).run al w=.ok (aD (J ⟨w.1.size,0,E⟩) 1 1) (w.alloc (bo #[I F x.1,I F x.2,Z x.3,Z x.4,I F x.5] 52)):=K
theorem EN{w:aO}{b:Array Oper}{rest:List Oper}{o:Oper}{a:Act}{Q:Exit->Act->aO->Prop}(c:o.6=E)(y:Operand)(d:o.2=Op.buildSlice 31 1 #[(0,y)])(x:Mg)(g:a.eval y=bR #[I F x.1,I F x.2,Z x.3,Z x.4,I F x.5])(h:wpList al b Q rest (a.put o.1 (aD (J ⟨w.1.size,0,E⟩) 1 1)) (w.alloc (bo #[I F x.1,I F x.2,Z x.3,Z x.4,I F x.5] 52))):wpList al b Q (o::rest) a w:=by refine wpList_plain c λi e=>?_;have f:=RO x w;unfold Oper.wp;simp[execOp,d,g,f,Result.andThen];exact e _ _ h
def Zx(A:ByteArray->List Pl)(l:List Mg):Prop:=∃j x,l[j]?=J x/\((∃s,BV (AA (A s)) x.1=ac)\/∃y∈l.take j,y.1=x.1)
open Classical in
def KI(a:(p:Prop)->Decidable p)(st:BG)(l:List Mg):Int:=@ite _ (∃x∈l,In st.7 x=aj) (a _) 1 (@ite _ (Zx st.A l) (a _) 9 0)
def Y1(st:BG)(l:List Mg)(w:aO)(e:Ending)(w':aO):Prop:=((KI C st l≠0/\e=aw (bE 70 (I F (KI C st l))))\/(KI C st l=0/\e=aw bl))/\an w.1.size w w'
open Classical in
theorem OJ(L:Nat->Prop)(H:Nat)(D:DP)(st:BG)(ms:List Mg)(a:Option Addr)(z kc:Nat)(w:aO)(h:Hx L H D st w)(hz:ms.length=z)(g6:z<=1000)(hm:∀(j:Nat) (x:Mg),ms[j]?=J x->∃gb go,a=J ⟨gb,go,E⟩/\gb<w.1.size/\∀k,k<5->w.cell? ⟨gb,go+j*5+k,E⟩=(mc x)[k]?)(e2:∀x∈ms,x.3.size<=bd/\x.4.size<=bd)(e0:∀s,(st.A s).length<=1000):bx al 130 #[af (J ⟨H,0,E⟩),aD a z kc] w (Y1 st ms w):=by
 generalize hPost:Y1 st ms w=Post;have a2:=Aa hPost;clear hPost;have a1:Hid (KI C st ms=if∃x∈ms,In st.7 x=aj then 1 else if Zx st.A ms then 9 else 0):=Aa (by unfold KI;congr);have b9:Hid (∀W er,KI C st ms=er->er≠0->an w.1.size w W->Post (aw (bE 70 (I F er))) W):=Aa (λW er X h0 r=>by rw[<-a2.o];exact⟨aN ⟨by rw[X];exact h0,by rw[X]⟩,r⟩);have e6:Hid (∀W,KI C st ms=0->an w.1.size w W->Post (aw bl) W):=Aa (λW X r=>by rw[<-a2.o];exact⟨aK ⟨X,rfl⟩,r⟩);have c5:Hid (∀W id,an w.1.size w W->bx al 158 #[af (J ⟨H,0,E⟩),I F id] W λe w'=>(∃b,e=aw (aJ b)/\Hid (b=ac↔∃s,BV (AA (st.A s)) id=ac))/\an W.1.size W w'):=Aa (λW id r=>Yf L H D st id W (h.below r) e0);obtain⟨d9,e9⟩:w.cell? ⟨H,0,E⟩=J (I F st.7)/\H<w.1.size:=by obtain⟨M,cs,P,up,ut,dv,h1,h2,h3,h4,h5,h6,h7,h8,h9,g0⟩:=h;exact⟨(h1.cell 0).trans h9,(aB.1 h1.here).1⟩
 have c3:Hid (∀W,an w.1.size w W->W.cell? ⟨H,0,E⟩=J (I F st.7)):=Aa (λW r=>(r.cell (p:=⟨H,0,E⟩) e9).trans d9);have b2:Hid (∀W,an w.1.size w W->∀(j:Nat) (x:Mg),ms[j]?=J x->∃gb go,a=J ⟨gb,go,E⟩/\gb<w.1.size/\∀k,k<5->W.cell? ⟨gb,go+j*5+k,E⟩=(mc x)[k]?):=Aa (λW r j x hx=>by obtain⟨gb,go,q1,q2,q3⟩:=hm j x hx;exact⟨gb,go,q1,q2,λk hk=>(r.cell (p:=⟨gb,go+j*5+k,E⟩) q2).trans (q3 k hk)⟩);have e5:=Aa e2;have Hz:=Aa hz;clear h hm e2 hz d9 e0;have g4:=@cj al;go_enter Tryz.func130,Tryz.ntmps130;go_wp2;go_loopw[14] (λv W=>∃j:Nat,j<=z/\v=I F j/\Hid (∀x∈ms.take j,In st.7 x=ac)/\an w.1.size w W) (λv _=>z-(intOf v).toNat);case atStart=>exact⟨0,bc _,rfl,Aa (λx hx=>by rw[List.take_zero]at hx;cases hx),av _ _⟩
 case round=>
  obtain⟨j,hj,rfl,HOk,r⟩:=hrel;by_cases f3:j<z
  ·obtain⟨x,hx⟩:∃x,ms[j]?=J x:=⟨_,aF (by rw[Hz.o];exact f3)⟩;obtain⟨gb,go,rfl,f1,a6⟩:=b2.o wr r j x hx;obtain⟨d0,d1,d2,d3,d4⟩:=JH a6;have c0:Hid (ms.take (j+1)=ms.take j++[x]):=Aa (by rw[bh,hx,be]);obtain⟨f7,f8⟩:=e5.o x (ba hx);have HMem:=Aa (ba hx);obtain⟨c,u⟩:∃c,wr.alloc (bo #[I F x.1,I F x.2,Z x.3,Z x.4,I F x.5] 52)=c:=⟨_,rfl⟩;have l:an w.1.size w c:=by rw[<-u];exact r.alloc r.4 _
   have c2:Blk c wr.1.size #[I F x.1,I F x.2,Z x.3,Z x.4,I F x.5] 52:=by rw[<-u];exact Blk.new wr _ 52
   have f0:wr.1.size<c.1.size:=(aB.1 c2).1;have m:Hid (∀W,an c.1.size c W->(W.cell? ⟨wr.1.size,0,E⟩=J (I F x.1)/\W.cell? ⟨wr.1.size,1,E⟩=J (I F x.2)/\W.cell? ⟨wr.1.size,2,E⟩=J (Z x.3)/\W.cell? ⟨wr.1.size,3,E⟩=J (Z x.4)/\W.cell? ⟨wr.1.size,4,E⟩=J (I F x.5)/\W.cell? ⟨H,0,E⟩=J (I F st.7))/\an c.1.size c W):=Aa (λW hW=>by have q:Blk W wr.1.size #[I F x.1,I F x.2,Z x.3,Z x.4,I F x.5] 52:=(hW.5 _ f0).trans c2;exact⟨⟨by simpa using q.cell 0,by simpa using q.cell 1,by simpa using q.cell 2,by simpa using q.cell 3,by simpa using q.cell 4,c3.o W (Ad l l.4 hW)⟩,hW⟩);have a3:Hid (∀W,an c.1.size c W->bx al 114 #[bR #[I F x.1,I F x.2,Z x.3,Z x.4,I F x.5]] W λe w'=>e=aw (aJ (right x))/\an c.1.size c w'):=Aa (λW hW=>(Fr x W f7 f8).mono (λe w' q=>⟨q.1,Ad hW hW.4 q.2⟩));have c4:Hid (∀W,0<=x.1->x.1<=1099511627776->an c.1.size c W->bx al 157 #[af (J ⟨H,0,E⟩),I F x.1] W λe w'=>e=aw (aJ (aU (x.1%4=st.7)))/\an c.1.size c w'):=Aa (λW h0 h1 hW=>(QV H st.7 x.1 W (c3.o W (Ad l l.4 hW)) h0 h1).mono (λe w' q=>⟨q.1,by rw[<-q.2];exact hW⟩));obtain⟨⟨y0,y1,y2,y3,y4,r0⟩,g1⟩:=m.o c (av _ _);have V:Hid (In st.7 x=(right x&&aU (x.5=st.7)&&!decide (x.1%4=st.7))):=Aa rfl;have c6:Hid (right x=ac->0<=x.1/\x.1<=1099511627776):=Aa (λh=>by simp[right,J2]at h;omega);have R:Hid (In st.7 x=aj->∀W,an c.1.size c W->Post (aw (bE 70 (I F 1))) W):=Aa (λhf W hW=>b9.o W 1 (by rw[a1.o,if_pos ⟨x,HMem.o,hf⟩]) oD (Ad l l.4 hW));have b3:Hid (In st.7 x=ac->∀y∈ms.take (j+1),In st.7 y=ac):=Aa (λhf y B=>by
    rw[c0.o]at B;rcases Y.1 B with B|B
    ·exact HOk.o y B
    ·rw[ab]at B;rw[B];exact hf);generalize In st.7 x=ok at V R b3;obtain⟨rb,e7⟩:∃b,Hid (right x=b):=⟨_,rfl⟩;rw[e7.o]at a3 V c6;clear a6 hx c2;go_wp2;cases rb
   ·have Q:ok=aj:=by rw[V.o];rfl
    subst Q;refine aQ (S:=(λW=>(W.cell? ⟨wr.1.size,0,E⟩=J (I F x.1)/\W.cell? ⟨wr.1.size,1,E⟩=J (I F x.2)/\W.cell? ⟨wr.1.size,2,E⟩=J (Z x.3)/\W.cell? ⟨wr.1.size,3,E⟩=J (Z x.4)/\W.cell? ⟨wr.1.size,4,E⟩=J (I F x.5)/\W.cell? ⟨H,0,E⟩=J (I F st.7))/\an c.1.size c W)) K (m.o _ (av _ _).drew) (λhHeld=>?_);refine tr 0 18 (bR #[I F x.1,I F x.2,Z x.3,Z x.4,I F x.5]) ?_ ?_
    ·rintro W ⟨⟨z0,U,z2,z3,z4,t0⟩,-⟩;go_simp
    refine aL (rs:=[1]) K oS ?_;refine aE rfl (λg7 t=>?_) aH;go_simp;refine aR (a3.o _ (av _ _).drew) ?_;rintro e w5 ⟨rfl,d⟩;dsimp only;refine t.out _ _ (m.o _ d) (λhHeld=>?_);clear t g7;try simp only[bi,ai,ay,ax]
    refine tk 2 20 (aJ ac) ?_;refine tk 3 21 (aJ ac) ?_;refine sk 4 22 ?_;refine sk 5 23 ?_;refine sk 6 24 ?_;refine sk 7 25 ?_;refine sk 8 26 ?_;refine sk 9 27 ?_;refine sk 10 28 ?_;refine tk 11 29 (aJ ac) ?_;refine tk 12 30 (aJ ac) ?_;refine sk 13 31 ?_;refine sk 14 32 ?_;refine sk 15 33 ?_;refine sk 16 34 ?_;refine tk 17 35 (aJ ac) ?_;refine bp K ?_ _;have HF:=Aa (R.o rfl w5 d);go_wp2;exact HF.o
   ·obtain⟨a7,a8⟩:=c6.o rfl;by_cases N:x.5=st.7
    ·by_cases h4:x.1%4=st.7
     ·have Q:ok=aj:=by rw[V.o];simp[N,h4]
      subst Q;have Hh:=Aa N;have H4:=Aa h4;clear N h4;refine aQ (S:=(λW=>(W.cell? ⟨wr.1.size,0,E⟩=J (I F x.1)/\W.cell? ⟨wr.1.size,1,E⟩=J (I F x.2)/\W.cell? ⟨wr.1.size,2,E⟩=J (Z x.3)/\W.cell? ⟨wr.1.size,3,E⟩=J (Z x.4)/\W.cell? ⟨wr.1.size,4,E⟩=J (I F x.5)/\W.cell? ⟨H,0,E⟩=J (I F st.7))/\an c.1.size c W)) K (m.o _ (av _ _).drew) (λhHeld=>?_);refine tr 0 18 (bR #[I F x.1,I F x.2,Z x.3,Z x.4,I F x.5]) ?_ ?_
      ·rintro W ⟨⟨z0,U,z2,z3,z4,t0⟩,-⟩;go_simp
      refine aL (rs:=[1]) K oS ?_;refine aE rfl (λg7 t=>?_) aH;go_simp;refine aR (a3.o _ (av _ _).drew) ?_;rintro e w5 ⟨rfl,d⟩;dsimp only;refine t.out _ _ (m.o _ d) (λhHeld=>?_);clear t g7;try simp only[bi,ai,ay,ax]
      refine tk 2 20 (aJ aj) ?_;refine tk 3 21 (aJ aj) ?_;refine tk 4 22 (af (J ⟨wr.1.size,4,E⟩)) ?_;refine tr 5 23 (I F x.5) ?_ ?_
      ·rintro W ⟨⟨z0,U,z2,z3,z4,t0⟩,-⟩;go_simp
      refine tk 6 24 (af (J ⟨H,0,E⟩)) ?_;refine tk 7 25 (af (J ⟨H,0,E⟩)) ?_;refine tk 8 26 (af (J ⟨H,0,E⟩)) ?_;refine tr 9 27 (I F st.7) ?_ ?_
      ·rintro W ⟨⟨z0,U,z2,z3,z4,t0⟩,-⟩;go_simp
      refine tr 10 28 (aJ aj) ?_ ?_
      ·rintro W ⟨⟨z0,U,z2,z3,z4,t0⟩,-⟩;have N:=Hh.o;simp[go_sem,N]
      refine tk 11 29 (aJ aj) ?_;refine tk 12 30 (aJ aj) ?_;refine tk 13 31 (af (J ⟨H,0,E⟩)) ?_;refine tk 14 32 (af (J ⟨wr.1.size,0,E⟩)) ?_;refine tr 15 33 (I F x.1) ?_ ?_
      ·rintro W ⟨⟨z0,U,z2,z3,z4,t0⟩,-⟩;go_simp
      refine aL (rs:=[16]) K oS ?_;refine aE rfl (λg7 t=>?_) aH;go_simp;refine aR (c4.o _ a7 a8 d) ?_;rintro e w6 ⟨rfl,f⟩;dsimp only;refine t.out _ _ (m.o _ f) (λhHeld=>?_);clear t g7;try simp only[bi,ai,ay,ax]
      rw[show aU (x.1%4=st.7)=ac from by simp[H4.o]];refine tk 17 35 (aJ ac) ?_;refine bp K ?_ _;have HF:=Aa (R.o rfl w6 f);go_wp2;exact HF.o
     ·have Q:ok=ac:=by rw[V.o];simp[N,h4]
      subst Q;have Hh:=Aa N;have H4:=Aa h4;clear N h4;refine aQ (S:=(λW=>(W.cell? ⟨wr.1.size,0,E⟩=J (I F x.1)/\W.cell? ⟨wr.1.size,1,E⟩=J (I F x.2)/\W.cell? ⟨wr.1.size,2,E⟩=J (Z x.3)/\W.cell? ⟨wr.1.size,3,E⟩=J (Z x.4)/\W.cell? ⟨wr.1.size,4,E⟩=J (I F x.5)/\W.cell? ⟨H,0,E⟩=J (I F st.7))/\an c.1.size c W)) K (m.o _ (av _ _).drew) (λhHeld=>?_);refine tr 0 18 (bR #[I F x.1,I F x.2,Z x.3,Z x.4,I F x.5]) ?_ ?_
      ·rintro W ⟨⟨z0,U,z2,z3,z4,t0⟩,-⟩;go_simp
      refine aL (rs:=[1]) K oS ?_;refine aE rfl (λg7 t=>?_) aH;go_simp;refine aR (a3.o _ (av _ _).drew) ?_;rintro e w5 ⟨rfl,d⟩;dsimp only;refine t.out _ _ (m.o _ d) (λhHeld=>?_);clear t g7;try simp only[bi,ai,ay,ax]
      refine tk 2 20 (aJ aj) ?_;refine tk 3 21 (aJ aj) ?_;refine tk 4 22 (af (J ⟨wr.1.size,4,E⟩)) ?_;refine tr 5 23 (I F x.5) ?_ ?_
      ·rintro W ⟨⟨z0,U,z2,z3,z4,t0⟩,-⟩;go_simp
      refine tk 6 24 (af (J ⟨H,0,E⟩)) ?_;refine tk 7 25 (af (J ⟨H,0,E⟩)) ?_;refine tk 8 26 (af (J ⟨H,0,E⟩)) ?_;refine tr 9 27 (I F st.7) ?_ ?_
      ·rintro W ⟨⟨z0,U,z2,z3,z4,t0⟩,-⟩;go_simp
      refine tr 10 28 (aJ aj) ?_ ?_
      ·rintro W ⟨⟨z0,U,z2,z3,z4,t0⟩,-⟩;have N:=Hh.o;simp[go_sem,N]
      refine tk 11 29 (aJ aj) ?_;refine tk 12 30 (aJ aj) ?_;refine tk 13 31 (af (J ⟨H,0,E⟩)) ?_;refine tk 14 32 (af (J ⟨wr.1.size,0,E⟩)) ?_;refine tr 15 33 (I F x.1) ?_ ?_
      ·rintro W ⟨⟨z0,U,z2,z3,z4,t0⟩,-⟩;go_simp
      refine aL (rs:=[16]) K oS ?_;refine aE rfl (λg7 t=>?_) aH;go_simp;refine aR (c4.o _ a7 a8 d) ?_;rintro e w6 ⟨rfl,f⟩;dsimp only;refine t.out _ _ (m.o _ f) (λhHeld=>?_);clear t g7;try simp only[bi,ai,ay,ax]
      rw[show aU (x.1%4=st.7)=aj from by simp[H4.o]];refine tk 17 35 (aJ aj) ?_;refine bp K ?_ _;have e3:=Ad l l.4 f;go_wp2;go_roundw;case rel=>exact⟨j+1,O,by go_num,Aa (b3.o rfl),e3⟩
      case measure=>simp[intOf];omega
    ·have Q:ok=aj:=by rw[V.o];simp[N]
     subst Q;have f2:(x.5==st.7)=aj:=by simpa using N
     refine aQ (S:=(λW=>(W.cell? ⟨wr.1.size,0,E⟩=J (I F x.1)/\W.cell? ⟨wr.1.size,1,E⟩=J (I F x.2)/\W.cell? ⟨wr.1.size,2,E⟩=J (Z x.3)/\W.cell? ⟨wr.1.size,3,E⟩=J (Z x.4)/\W.cell? ⟨wr.1.size,4,E⟩=J (I F x.5)/\W.cell? ⟨H,0,E⟩=J (I F st.7))/\an c.1.size c W)) K (m.o _ (av _ _).drew) (λhHeld=>?_);refine tr 0 18 (bR #[I F x.1,I F x.2,Z x.3,Z x.4,I F x.5]) ?_ ?_
     ·rintro W ⟨⟨z0,U,z2,z3,z4,t0⟩,-⟩;go_simp
     refine aL (rs:=[1]) K oS ?_;refine aE rfl (λg7 t=>?_) aH;go_simp;refine aR (a3.o _ (av _ _).drew) ?_;rintro e w5 ⟨rfl,d⟩;dsimp only;refine t.out _ _ (m.o _ d) (λhHeld=>?_);clear t g7;try simp only[bi,ai,ay,ax]
     refine tk 2 20 (aJ aj) ?_;refine tk 3 21 (aJ aj) ?_;refine tk 4 22 (af (J ⟨wr.1.size,4,E⟩)) ?_;refine tr 5 23 (I F x.5) ?_ ?_
     ·rintro W ⟨⟨z0,U,z2,z3,z4,t0⟩,-⟩;go_simp
     refine tk 6 24 (af (J ⟨H,0,E⟩)) ?_;refine tk 7 25 (af (J ⟨H,0,E⟩)) ?_;refine tk 8 26 (af (J ⟨H,0,E⟩)) ?_;refine tr 9 27 (I F st.7) ?_ ?_
     ·rintro W ⟨⟨z0,U,z2,z3,z4,t0⟩,-⟩;go_simp
     refine tr 10 28 (aJ ac) ?_ ?_
     ·rintro W ⟨⟨z0,U,z2,z3,z4,t0⟩,-⟩;simp[go_sem,f2,N]
     refine tk 11 29 (aJ ac) ?_;refine tk 12 30 (aJ ac) ?_;refine sk 13 31 ?_;refine sk 14 32 ?_;refine sk 15 33 ?_;refine sk 16 34 ?_;refine tk 17 35 (aJ ac) ?_;refine bp K ?_ _;have HF:=Aa (R.o rfl w5 d);go_wp2;exact HF.o
  ·obtain rfl:j=z:=O;obtain⟨w7,f5⟩:∃q,q=wr:=⟨_,rfl⟩;subst f5;rw[show ms.take j=ms from bv (by rw[Hz.o];exact au _)]at HOk;rw[if_neg (by rintro⟨x,hx,hf⟩;rw[HOk.o x hx]at hf;cases hf)]at a1;have n:an w.1.size w (w7.alloc (ci #[] 0)):=r.alloc r.4 _;have c7:Hid (SetI (w7.alloc (ci #[] 0)) w7.1.size 0 (λq=>∃y∈ms.take 0,y.1=q)):=Aa ((SetI.made w7).cong (λq=>oS));have f9:w.1.size<=w7.1.size:=r.4;go_wp2;go_loopw[41] (λv W=>∃g:Nat,g<=j/\v=I F g/\Hid (SetI W w7.1.size g (λq=>∃y∈ms.take g,y.1=q))/\Hid (∀i x,i<g->ms[i]?=J x->¬((∃s,BV (AA (st.A s)) x.1=ac)\/∃y∈ms.take i,y.1=x.1))/\an w.1.size w W) (λv _=>j-(intOf v).toNat);case atStart=>exact⟨0,bc _,rfl,c7,Aa (λi x hi=>O),n⟩
   case round=>
    clear c7 n r;obtain⟨g,g2,rfl,c8,c9,a9⟩:=hrel;by_cases e1:g<j
    ·obtain⟨x,hx⟩:∃x,ms[g]?=J x:=⟨_,aF (by rw[Hz.o];exact e1)⟩;obtain⟨gb,go,rfl,f1,a6⟩:=b2.o wr a9 g x hx;obtain⟨d0,d1,d2,d3,d4⟩:=JH a6;have c0:Hid (ms.take (g+1)=ms.take g++[x]):=Aa (by rw[bh,hx,be]);have c1:=Aa hx;have f4:0<=x.1/\x.1<=1099511627776:=by have q:=HOk.o x (ba hx);simp[In,right,J2]at q;omega
     obtain⟨a7,a8⟩:=f4;obtain⟨c,u⟩:∃c,wr.alloc (bo #[I F x.1,I F x.2,Z x.3,Z x.4,I F x.5] 52)=c:=⟨_,rfl⟩;obtain⟨W4,a5⟩:∃W4,c.alloc (bo #[] 207)=W4:=⟨_,rfl⟩;have l:an w.1.size w c:=by rw[<-u];exact a9.alloc a9.4 _
     have n:an w.1.size w W4:=by rw[<-a5];exact l.alloc l.4 _
     have a4:SetI c w7.1.size g (λq=>∃y∈ms.take g,y.1=q):=by rw[<-u];exact c8.o.on (cd _ _ _ c8.o.lt)
     have b1:SetI W4 w7.1.size g (λq=>∃y∈ms.take g,y.1=q):=by rw[<-a5];exact a4.on (cd _ _ _ a4.lt)
     have b0:c.cell? ⟨wr.1.size,0,E⟩=J (I F x.1):=by rw[<-u];simp
     have f6:wr.1.size<c.1.size:=by rw[<-u];simp
     have b4:W4.cell? ⟨wr.1.size,0,E⟩=J (I F x.1):=by rw[<-a5,World.cell?_alloc_lt _ _ ⟨wr.1.size,0,E⟩ f6];exact b0
     obtain⟨lb,b6,g3⟩:=a4.look a7 a8;have d6:=Aa b6;clear b6;have b8:=Aa (c5.o W4 x.1 n);clear a6 hx;cases lb
     ·go_wp2_with(go_at_call 158;go_must(refine b8.o.mono ?_);rintro e w5 ⟨⟨b,rfl,hb⟩,d⟩;refine bk ?_);refine Aa ?_;have f:an w.1.size w w5:=Ad n n.4 d;cases b
      ·have b7:¬((∃s,BV (AA (st.A s)) x.1=ac)\/∃y∈ms.take g,y.1=x.1):=by
        rintro(q|q)
        ·exact absurd (hb.o.2 q) oD
        ·exact absurd (d6.o.2 q) oD
       have d7:SetI w5 w7.1.size g (λq=>∃y∈ms.take g,y.1=q):=b1.on (d.5 _ b1.lt);obtain⟨w9,g5,d8,a0⟩:=d7.put (by unfold bd;omega) a7 a8;have b5:w5.cell? ⟨wr.1.size,0,E⟩=J (I F x.1):=(d.cell (p:=⟨wr.1.size,0,E⟩) (by rw[<-a5];simp;omega)).trans b4;have e4:Hid (SetI w9 w7.1.size (g+1) (λq=>∃y∈ms.take (g+1),y.1=q)):=Aa (d8.cong (λq=>by
        rw[c0.o];constructor
        ·rintro(rfl|⟨y,B,h2⟩)
         ·exact⟨x,oS,rfl⟩
         ·exact⟨y,aI _ B,h2⟩
        ·rintro⟨y,B,h2⟩;rcases Y.1 B with B|B
         ·exact aK ⟨y,B,h2⟩
         ·rw[ab]at B;subst B;exact aN h2.symm));have d5:Hid (∀i x,i<g+1->ms[i]?=J x->¬((∃s,BV (AA (st.A s)) x.1=ac)\/∃y∈ms.take i,y.1=x.1)):=Aa (λi x hi hx=>by
        by_cases e:i=g
        ·subst e;obtain rfl:=bN (c1.o.symm.trans hx);exact b7
        ·exact c9.o i x O hx);have e8:an w.1.size w w9:=⟨a0.1.trans f.1,a0.2.trans f.2,a0.3.trans f.3,bu f.4 a0.4,λk hk=>(a0.5 k (bq hk f.4) (λe=>by injection e with e;omega)).trans (f.5 k hk)⟩;clear d8 a0 a4 b1 d7 b7 l n d f a5 u b8;go_wp2;go_roundw;case rel=>exact⟨g+1,O,by go_num,e4,d5,e8⟩
       case measure=>simp[intOf];omega
      ·have X:KI C st ms=9:=by rw[a1.o,if_pos ⟨g,x,c1.o,aN (hb.o.1 rfl)⟩]
       have HF:=Aa (b9.o w5 9 X oD f);clear X;go_wp2;exact HF.o
     ·have X:KI C st ms=9:=by rw[a1.o,if_pos ⟨g,x,c1.o,aK (d6.o.1 rfl)⟩]
      have HF:=Aa (b9.o W4 9 X oD n);clear X b1 a4 b8 n;go_wp2;exact HF.o
    ·obtain rfl:g=j:=O;have X:KI C st ms=0:=by rw[a1.o,if_neg (by rintro⟨i0,x,hx,N⟩;exact c9.o i0 x (by rw[<-Hz.o];exact(bm.1 hx).1) hx N)]
     have HF:=Aa (e6.o wr X a9);clear X;go_wp2;exact HF.o
def Ap(A:List Pl):List Pl:=(A.filter Pl.kept).map λx=>⟨x.m,-1,aj⟩
theorem A8(x:Pl)(A:List Pl):Ap (x::A)=if x.kept=ac then⟨x.m,-1,aj⟩::Ap A else Ap A:=by
 unfold Ap;by_cases h:x.kept=ac
 ·rw[if_pos h,ae h,aT]
 ·rw[if_neg h,aa h]
theorem Du(A B:List Pl):Ap (A++B)=Ap A++Ap B:=by simp[Ap]
theorem Kr(A:List Pl)(m:Mg)(u:Nat):Ap (A++[⟨m,(u:Int),aj⟩])=Ap A:=by
 rw[Du,A8,if_neg]
 ·simp[Ap]
 ·simp[Pl.kept]
theorem Bi(u:Nat)(A:List Pl):Ap (AN u ac A)=Ap A:=by
 unfold AN;rw[if_neg O];induction A with
 |nil=>rfl
 |cons x r ih=>
  by_cases hg:Ed u ac x=ac
  ·rw[aa (by simp[hg]),A8,if_neg]
   ·exact ih
   ·unfold Ed at hg;simp only[bb,beq_iff_eq,bne_iff_ne,ne_eq,ca]at hg;simp only[Pl.kept,hg.2,Bool.or_false,decide_eq_true_eq];omega
  ·rw[ae (by simp[hg]),aT,A8,A8,ih,BY];have e:(B8 u x).kept=x.kept:=by
    unfold B8;split
    ·rename_i hu;unfold Ed at hg;simp only[hu,beq_self_eq_true,Bool.true_and,bne_iff_ne,ne_eq,ca,Bool.not_eq_false]at hg;simp[Pl.kept,hg]
    ·rfl
   rw[e]
theorem QC(id:Int)(A:List Pl):Ap (ER id A)=ER id (Ap A):=by
 unfold ER;induction A with
 |nil=>rfl
 |cons x r ih=>
  by_cases h:x.m.1=id
  ·rw[aa (by simp[h]),ih,A8];split
   ·rw[aa (by simp[h])]
   ·rfl
  ·rw[ae (by simp[h]),A8,A8,ih];split
   ·rw[ae (by simp[h])]
   ·rfl
theorem Bz(ids:List Int)(A:List Pl):Ap (Al ids A)=Al ids (Ap A):=by
 induction ids generalizing A with
 |nil=>rfl
 |cons i r ih=>show Ap (Al r (ER i A))=Al r (ER i (Ap A));rw[ih,QC]
theorem IZ(id:Int)(u:Nat)(A:List Pl)(h:∀x∈A,x.m.1=id->x.kept=ac):Ap (hold id u A)=Ap A:=by
 unfold hold;induction A with
 |nil=>rfl
 |cons x r ih=>
  rw[aT,A8,A8,ih (λy a=>h y (ag _ a))];by_cases e:x.m.1=id
  ·rw[if_pos e,h x (am ..) e];simp[Pl.kept]
  ·rw[if_neg e]
theorem A7{A:List Pl}{y:Pl}:y∈Ap A↔∃x∈A,x.kept=ac/\y=⟨x.m,-1,aj⟩:=by
 unfold Ap;rw[aM];constructor
 ·rintro⟨x,hx,rfl⟩;exact⟨x,(G.1 hx).1,(G.1 hx).2,rfl⟩
 ·rintro⟨x,hx,hk,rfl⟩;exact⟨x,G.2 ⟨hx,hk⟩,rfl⟩
theorem Wv{id:Int}{A:List Pl}{x:Pl}:x∈ER id A↔x∈A/\x.m.1≠id:=by unfold ER;rw[G,decide_eq_true_eq]
theorem Bt{ids:List Int}{A:List Pl}{x:Pl}:x∈Al ids A↔x∈A/\x.m.1∉ids:=by
 induction ids generalizing A with
 |nil=>simp[Al]
 |cons i r ih=>
  show x∈Al r (ER i A)↔_;rw[ih,Wv,aP];constructor
  ·rintro⟨⟨h1,h2⟩,a⟩;exact⟨h1,λh=>h.elim h2 a⟩
  ·rintro⟨h1,h2⟩;exact⟨⟨h1,λh=>h2 (aN h)⟩,λh=>h2 (aK h)⟩
theorem Br{u:Nat}{A:List Pl}{y:Pl}:y∈AN u ac A↔∃x∈A,¬(x.u=(u:Int)/\x.t=aj)/\y=B8 u x:=by
 unfold AN;rw[if_neg O,aM];constructor
 ·rintro⟨x,hx,rfl⟩;obtain⟨h1,h2⟩:=G.1 hx;refine⟨x,h1,λ⟨a,b⟩=>?_,rfl⟩;simp[Ed,a,b]at h2
 ·rintro⟨x,hx,c,rfl⟩;refine⟨x,G.2 ⟨hx,?_⟩,rfl⟩;simp only[Ed,bH,Bool.and_eq_false_iff,beq_eq_false_iff_ne];by_cases e:x.u=(u:Int)
  ·right;cases ht:x.t with
   |false=>exact absurd ⟨e,ht⟩ c
   |true=>rfl
  ·exact aN e
def FC(s:ByteArray)(ms:List Mg):List Pl:=(ms.filter λm=>aU (m.4=s)).map λm=>⟨m,-1,aj⟩
theorem JV(s:ByteArray)(m:Mg)(ms:List Mg):FC s (m::ms)=if m.4=s then⟨m,-1,aj⟩::FC s ms else FC s ms:=by
 unfold FC;by_cases h:m.4=s
 ·rw[if_pos h,ae (by simpa using h),aT]
 ·rw[if_neg h,aa (by simpa using h)]
theorem Fb(ms:List Mg):∀(A:ByteArray->List Pl),(∀m∈ms,right m=ac)->(ms.Pairwise λa b=>a.1≠b.1)->(∀m∈ms,∀x∈A m.4,x.m.1≠m.1)->∀s,As A ms s=A s++FC s ms:=by
 induction ms with
 |nil=>intro A _ _ _ s;simp[As,FC]
 |cons m r ih=>
  intro A g f c s;have e:As A (m::r)=As (Cw A m.4 (AR (A m.4) m (-1))) r:=rfl;have d:AR (A m.4) m (-1)=A m.4++[⟨m,-1,aj⟩]:=by unfold AR;rw[if_pos];refine⟨g m (am ..),?_⟩;unfold BV;rw[bK];intro x hx;have:=c m (am ..) x hx;simpa using this
  rw[e,d,ih _ (λq hq=>g q (ag _ hq)) (aA.1 f).2,JV]
  ·unfold Cw;by_cases h:s=m.4
   ·subst h;simp
   ·rw[if_neg h,if_neg (λe=>h e.symm)]
  ·intro q hq x hx;unfold Cw at hx;split at hx
   ·rename_i e2;rcases Y.1 hx with h1|h1
    ·exact c q (ag _ hq) x (e2▸h1)
    ·obtain rfl:=ab.1 h1;exact(aA.1 f).1 q hq
   ·exact c q (ag _ hq) x hx
theorem Z4{A:List Pl}(h:A.Pairwise λa b=>a.m.1≠b.m.1){x y:Pl}(hx:x∈A)(c:y∈A)(e:x.m.1=y.m.1):x=y:=by
 induction A with
 |nil=>cases hx
 |cons a r ih=>
  obtain⟨h1,h2⟩:=aA.1 h;rcases aP.1 hx with ex|hx
  ·rcases aP.1 c with d|c
   ·rw[ex,d]
   ·exact absurd e (ex▸h1 y c)
  ·rcases aP.1 c with d|c
   ·exact absurd e.symm (d▸h1 x hx)
   ·exact ih h2 hx c
theorem CU{u:Nat}{x:Pl}(h:x.u≠(u:Int)):B8 u x=x:=if_neg h
theorem QD(s:ByteArray)(ms:List Mg):Ap (FC s ms)=FC s ms:=by
 unfold FC;induction ms.filter (λm=>aU (m.4=s))with
 |nil=>rfl
 |cons m r ih=>rw[aT,A8,if_pos (by simp[Pl.kept]),ih]
theorem Gn{s:ByteArray}{ms:List Mg}{x:Pl}:x∈FC s ms↔∃m∈ms,m.4=s/\x=⟨m,-1,aj⟩:=by
 unfold FC;rw[aM];constructor
 ·rintro⟨m,hm,rfl⟩;obtain⟨h1,h2⟩:=G.1 hm;exact⟨m,h1,by simpa using h2,rfl⟩
 ·rintro⟨m,h1,h2,rfl⟩;exact⟨m,G.2 ⟨h1,by simpa using h2⟩,rfl⟩
theorem IY(A:List Pl):Ap (Ap A)=Ap A:=by
 induction A with
 |nil=>rfl
 |cons x r ih=>
  rw[A8];split
  ·rw[A8,if_pos (by simp[Pl.kept]),ih]
  ·exact ih
theorem MS(ms:List Mg):∀(c:Int),c<=AB c ms/\∀m∈ms,m.1/4+1<=AB c ms:=by
 induction ms with
 |nil=>intro c;exact⟨Int.le_refl _,λ_ h=>by cases h⟩
 |cons m r ih=>
  intro c;have e:AB c (m::r)=AB (max c (m.1/4+1)) r:=rfl;rw[e];obtain⟨h1,h2⟩:=ih (max c (m.1/4+1));refine⟨O,λq hq=>?_⟩;rcases aP.1 hq with rfl|hq
  ·omega
  ·exact h2 q hq
theorem I5(ms:List Mg):∀(c:Int),(∀m∈ms,m.1/4+1<=c)->AB c ms=c:=by
 induction ms with
 |nil=>intro c _;rfl
 |cons m r ih=>intro c h;have e:AB c (m::r)=AB (max c (m.1/4+1)) r:=rfl;have h1:=h m (am ..);rw[e,show max c (m.1/4+1)=c by omega];exact ih c (λq hq=>h q (ag _ hq))
theorem R7(c:Ch):∃l,c.text=l++[10]/\l=bG c.1++58::(c.2.1.1.1++58::(c.2.2.1.1++58::(bG c.2.3++58::(bG c.3++58::(BC c.4++58::(AC c.5++58::(AC c.6++58::(AC c.7++[58])))))))):=⟨_,by simp[Ch.text],rfl⟩
theorem Q8(c:Ch)(h:c.ok){l:List UInt8}(d:l=bG c.1++58::(c.2.1.1.1++58::(c.2.2.1.1++58::(bG c.2.3++58::(bG c.3++58::(BC c.4++58::(AC c.5++58::(AC c.6++58::(AC c.7++[58]))))))))):∀x∈l,x≠10:=by
 intro x hx e;subst e;subst d;have b:∀n:Int,-1<=n->(10:UInt8)∉bG n:=λn f hx=>(Cn n f 10 hx).2.1 rfl;have i2:(10:UInt8)∉c.2.1.1.1:=λhx=>(h.2 10 hx).2 rfl;have i3:(10:UInt8)∉c.2.2.1.1:=λhx=>(h.3 10 hx).2 rfl;have i4:(10:UInt8)∉BC c.4:=λhx=>(ED c.4 (λz g=>(h.7 z g).1) 10 hx).2.1 rfl;have i5:∀ms:List Mg,(∀m∈ms,right m=ac)->(10:UInt8)∉AC ms:=λms hm hx=>(EM ms hm 10 hx).2 rfl;have a:(10:UInt8)≠58:=oD;simp only[Y,aP]at hx;rcases hx with hx|hx|hx|hx|hx|hx|hx|hx|hx|hx|hx|hx|hx|hx|hx|hx|hx|hx
 ·exact b _ (by have:=h.1;omega) hx
 ·exact a hx
 ·exact i2 hx
 ·exact a hx
 ·exact i3 hx
 ·exact a hx
 ·exact b _ h.5.1 hx
 ·exact a hx
 ·exact b _ (by have:=h.6;omega) hx
 ·exact a hx
 ·exact i4 hx
 ·exact a hx
 ·exact i5 _ h.9.1 hx
 ·exact a hx
 ·exact i5 _ h.9.2.1 hx
 ·exact a hx
 ·exact i5 _ h.9.2.2 hx
 ·rcases hx with hx|hx
  ·exact a hx
  ·cases hx
theorem R8(c:Ch)(h:c.ok)(torn:Int):(EP (bs c.text) torn).size<=1000000/\bQ (EP (bs c.text) torn).1.1 [10]=aj:=by
 obtain⟨l,e,f⟩:=R7 c;have g:=Q8 c h f;have b:=GE c h;have a:(EP (bs c.text) torn).1.1=c.text.take (min torn ((c.text.length:Int)-1)).toNat:=by unfold EP;rw[F8];simp[bs,ByteArray.data_extract]
 constructor
 ·have d:(EP (bs c.text) torn).size=(EP (bs c.text) torn).1.1.length:=by rw[Array.length_toList];rfl
  rw[d,a,bL];omega
 ·cases hb:bQ (EP (bs c.text) torn).1.1 [10]with
  |false=>rfl
  |true=>exfalso;unfold bQ at hb;rw[List.isSuffixOf_iff_suffix,a,e]at hb;have hm:(10:UInt8)∈(l++[10]).take (min torn (((l++[10]).length:Int)-1)).toNat:=hb.subset (ab.2 rfl);rw[List.take_append_of_le_length (by rw[ak,ao];omega)]at hm;exact g 10 (bP hm) rfl
def JP(pu:Nat->List Mg):Nat:=(pu 0).length+(pu 1).length+(pu 2).length+(pu 3).length+(pu 4).length
theorem JQ(pu:Nat->List Mg){u:Nat}(a:u<5)(l:List Mg):JP (Af pu u l)+(pu u).length=JP pu+l.length:=by
 unfold JP Af;match u,a with
 |0,_=>simp;omega
 |1,_=>simp;omega
 |2,_=>simp;omega
 |3,_=>simp;omega
 |4,_=>simp;omega
theorem Ez{A:List Pl}(h:Fit A)(q:Pl->Bool):Fit (A.filter q):=⟨λx hx=>h.1 x (G.1 hx).1,cp _ h.2,λx hx=>h.3 x (G.1 hx).1⟩
theorem Je{A:List Pl}(h:Fit A)(u:Int)(back:Bool):Fit (AN u back A):=by
 unfold AN;split
 ·exact h
 ·refine II (Ez h _) _ (BY u) (λx hx=>?_);unfold B8;split
  ·intro h;cases h
  ·exact h.3 x (G.1 hx).1
theorem VZ{A:List Pl}(h:Fit A)(id:Int):Fit (ER id A):=Ez h _
abbrev DM:=ByteArray ⊕ Nat
def AU{α:Type}(g:DM->α)(s:DM)(x:α):DM->α:=λt=>if t=s then x else g t
theorem Dx{α:Type}(g:DM->α)(s:DM)(x:α):AU g s x s=x:=if_pos rfl
theorem BB{α:Type}(g:DM->α){s t:DM}(x:α)(h:t≠s):AU g s x t=g t:=if_neg h
def SK(t:List Pl->List Pl)(Q:DM->List Pl):DM->List Pl:=λl=>t (Q l)
structure Dd where
 put:Bool
 m:Mg
 loc:DM
def A9(id:Int)(m:Mg):DM:=if m.5=id then ah m.4 else az m.5.toNat
def Bq(b:Int)(l:List Dd):Int:=l.foldl (λb d=>if d.1=ac then max b (d.m.1/4+1)else b) b
theorem TJ{ns:List Nm}(h:Aw ns)(x:Nm):(GI ns x).Perm (del ns x.1++[x]):=by
 unfold Aw at h;induction ns with
 |nil=>simp[GI,del]
 |cons a r ih=>
  rw[aA]at h;simp only[GI,del];by_cases e:a.1=x.1
  ·rw[if_pos e,if_pos e];exact(bF x r).symm
  ·rw[if_neg e,if_neg e];split
   ·exact(ih h.2).cons a
   ·rename_i hl;have hx:Kt x.1 a.1=ac:=GJ (by simpa using hl) e;have b:del r x.1=r:=by rw[I9 (Io h.2),bT.2];intro y c;simpa using(Er (Fl hx (h.1 y c))).symm
    rw[b];exact(bF x (a::r)).symm
def UD(Q:DM->List Pl)(q:Int):Prop:=∃s,∃x∈Q (ah s),x.m.1=q
def Sv(Q:DM->List Pl)(l:List Mg):Prop:=∃j x,l[j]?=J x/\(UD Q x.1\/∃y∈l.take j,y.1=x.1)
structure D3 where
 Q:DM->List Pl
 did:Nat->List Dd
 id:Int
 cnt:Int
 best:Int
 db:Nat->List Int
 md:Nat->Int
 ar:Nat->Int
 down:Bool
def FE(st:D3)(u:Nat):D3:={st with Q:=SK (AN u ac) st.Q,did:=Af st.2 u []}
def PD(st:D3):D3:={st with Q:=λl=>Ap (st.Q l),did:=λ_=>[],down:=aj,cnt:=st.5}
def Nt(id:Int):D3:={Q:=λ_=>[],did:=λ_=>[],id:=id,cnt:=0,best:=0,db:=λ_=>[],md:=λ_=>0,ar:=λ_=>0,down:=aj}
def fr(m:Mg):Pl:=⟨m,-1,aj⟩
def Aj(l:List Dd):List Mg:=(l.filter λd=>d.1).map Dd.m
def An(l:List Dd):List Int:=(l.filter λd=>!d.1).map λd=>d.m.1
theorem Fd(l:List Dd){d:Dd}(h:d.1=ac):Aj (l++[d])=Aj l++[d.m]:=by simp[Aj,h]
theorem Fq(l:List Dd){d:Dd}(h:d.1=aj):Aj (l++[d])=Aj l:=by simp[Aj,h]
theorem Lh(l:List Dd){d:Dd}(h:d.1=ac):An (l++[d])=An l:=by simp[An,h]
theorem JT(l:List Dd){d:Dd}(h:d.1=aj):An (l++[d])=An l++[d.m.1]:=by simp[An,h]
theorem AZ{l:List Dd}{m:Mg}:m∈Aj l↔∃d∈l,d.1=ac/\d.m=m:=by
 unfold Aj;rw[aM];constructor
 ·rintro⟨d,a,rfl⟩;exact⟨d,(G.1 a).1,(G.1 a).2,rfl⟩
 ·rintro⟨d,h1,h2,rfl⟩;exact⟨d,G.2 ⟨h1,h2⟩,rfl⟩
theorem CJ{l:List Dd}{z:Int}:z∈An l↔∃d∈l,d.1=aj/\d.m.1=z:=by
 unfold An;rw[aM];constructor
 ·rintro⟨d,a,rfl⟩;exact⟨d,(G.1 a).1,by simpa using(G.1 a).2,rfl⟩
 ·rintro⟨d,h1,h2,rfl⟩;exact⟨d,G.2 ⟨h1,by simp[h2]⟩,rfl⟩
theorem NG{l:List Dd}:Aj l=[]/\An l=[]↔l=[]:=by
 constructor
 ·rintro⟨h1,h2⟩;cases l with
  |nil=>rfl
  |cons d r=>
   cases hp:d.1 with
   |true=>simp[Aj,hp]at h1
   |false=>simp[An,hp]at h2
 ·rintro rfl;exact⟨rfl,rfl⟩
theorem CW(l:List Dd):(Aj l).length<=l.length/\(An l).length<=l.length:=by unfold Aj An;rw[aY,aY];exact⟨aW _ _,aW _ _⟩
def D6(l:DM)(ds:List Dd):List Pl:=(ds.filter λd=>d.1&&aU (d.3=l)).map λd=>fr d.m
def D1(l:DM)(ds:List Dd):List Int:=(ds.filter λd=>!d.1&&aU (d.3=l)).map λd=>d.m.1
theorem Ue(ids:List Int):∀(A B:List Pl),Al ids (A++B)=Al ids A++Al ids B:=by
 induction ids with
 |nil=>intro A B;rfl
 |cons i r ih=>intro A B;show Al r (ER i (A++B))=Al r (ER i A)++Al r (ER i B);rw[<-ih];unfold ER;rw[List.filter_append]
theorem Rv{ids a:List Int}:∀{A:List Pl},(∀x∈A,x.m.1∈ids↔x.m.1∈a)->Al ids A=Al a A:=by
 have b:∀(ids:List Int) (A:List Pl),Al ids A=A.filter λx=>aU (x.m.1∉ids):=by
  intro ids;induction ids with
  |nil=>intro A;exact(List.filter_eq_self.2 (λx _=>oS)).symm
  |cons i r ih=>intro A;show Al r (ER i A)=_;rw[ih];unfold ER;rw[bC];congr 1;funext x;by_cases h1:x.m.1=i<;>by_cases h2:x.m.1∈r<;>simp[h1,h2]
 intro A h;rw[b,b];apply List.filter_congr;intro x hx;have:=h x hx;by_cases h1:x.m.1∈ids
 ·simp[h1,this.1 h1]
 ·have h2:x.m.1∉a:=λe=>h1 (this.2 e);simp[h1,h2]
def Zt(j:Nat)(ms:List Mg):List Pl:=(ms.filter λm=>aU (m.5.toNat=j)).map fr
theorem Iv(ms:List Mg):∀(B:Nat->List Pl),(∀m∈ms,right m=ac)->(ms.Pairwise λa b=>a.1≠b.1)->(∀m∈ms,∀x∈B m.5.toNat,x.m.1≠m.1)->∀j,AM B ms j=B j++Zt j ms:=by
 induction ms with
 |nil=>intro B _ _ _ j;simp[AM,Zt]
 |cons m r ih=>
  intro B i g d j;have e:AM B (m::r)=AM (Af B m.5.toNat (AR (B m.5.toNat) m (-1))) r:=rfl;have f:AR (B m.5.toNat) m (-1)=B m.5.toNat++[fr m]:=by
   unfold AR;rw[if_pos]
   ·rfl
   refine⟨i m (am ..),?_⟩;unfold BV;rw[bK];intro x hx;have:=d m (am ..) x hx;simpa using this
  rw[e,f,ih _ (λq hq=>i q (ag _ hq)) (aA.1 g).2]
  ·unfold Zt;by_cases h:m.5.toNat=j
   ·subst h;rw[Ae,ae oS];simp
   ·rw[Ab _ _ (λe=>h e.symm),aa (by simpa using h)]
  ·intro q hq x hx;by_cases c:q.5.toNat=m.5.toNat
   ·rw[c,Ae]at hx;rcases Y.1 hx with h1|h1
    ·exact d q (ag _ hq) x (by rw[c];exact h1)
    ·obtain rfl:=ab.1 h1;exact(aA.1 g).1 q hq
   ·rw[Ab _ _ c]at hx;exact d q (ag _ hq) x hx
theorem M0(ms:List Mg):∀(A:ByteArray->List Pl),(∀m∈ms,right m=ac)->(ms.Pairwise λa b=>a.1≠b.1)->(∀m∈ms,∀x∈A AF,x.m.1≠m.1)->∀s,AL A ms s=A s++(if s=AF then ms.map fr else []):=by
 induction ms with
 |nil=>intro A _ _ _ s;simp[AL]
 |cons m r ih=>
  intro A g f d s;have e:AL A (m::r)=AL (Cw A AF (AR (A AF) m (-1))) r:=rfl;have c:AR (A AF) m (-1)=A AF++[fr m]:=by
   unfold AR;rw[if_pos]
   ·rfl
   refine⟨g m (am ..),?_⟩;unfold BV;rw[bK];intro x hx;have:=d m (am ..) x hx;simpa using this
  rw[e,c,ih _ (λq hq=>g q (ag _ hq)) (aA.1 f).2]
  ·by_cases h:s=AF
   ·subst h;rw[By,if_pos rfl,if_pos rfl];simp
   ·rw[Bh _ _ h,if_neg h,if_neg h]
  ·intro q hq x hx;rw[By]at hx;rcases Y.1 hx with h1|h1
   ·exact d q (ag _ hq) x h1
   ·obtain rfl:=ab.1 h1;exact(aA.1 f).1 q hq
theorem Fk(ms:List Mg):Ap (ms.map fr)=ms.map fr:=by
 induction ms with
 |nil=>rfl
 |cons m r ih=>rw[List.map_cons,A8,if_pos (by simp[Pl.kept,fr]),ih];rfl
theorem LM{A:List Pl}(ms:List Mg):Fit A->(∀m∈ms,right m=ac)->(ms.Pairwise λa b=>a.1≠b.1)->(∀m∈ms,∀x∈A,x.m.1≠m.1)->Fit (A++ms.map fr):=by
 induction ms generalizing A with
 |nil=>intro h _ _ _;simpa using h
 |cons m r ih=>
  intro h f d c;have e:A++(m::r).map fr=(A++[fr m])++r.map fr:=oS;rw[e];refine ih (Jg h (f m (am ..)) (λx hx=>c m (am ..) x hx) rfl) (λq hq=>f q (ag _ hq)) (aA.1 d).2 (λq hq x hx=>?_);rcases Y.1 hx with h1|h1
  ·exact c q (ag _ hq) x h1
  ·obtain rfl:=ab.1 h1;exact(aA.1 d).1 q hq
theorem Jf{A:List Pl}(h:Fit A)(ids:List Int):Fit (Al ids A):=by
 induction ids generalizing A with
 |nil=>exact h
 |cons i r ih=>exact ih (VZ h i)
theorem Fo{A B:List Pl}(f:A.Pairwise λa b=>a.m.1≠b.m.1)(h:∀x∈A,∃y∈B,y.m.1=x.m.1):A.length<=B.length:=by
 induction A generalizing B with
 |nil=>exact Nat.zero_le _
 |cons a r ih=>
  obtain⟨h1,h2⟩:=aA.1 f;obtain⟨y,g,e⟩:=h a (am ..);obtain⟨p,q,rfl⟩:=List.append_of_mem g;have:=ih (B:=p++q) h2 (λx hx=>by
   obtain⟨z,c,d⟩:=h x (ag _ hx);refine⟨z,?_,d⟩;rcases Y.1 c with c|c
   ·exact aI _ c
   ·rcases aP.1 c with rfl|c
    ·exact absurd (e.symm.trans d) (h1 x hx)
    ·exact aX _ c);simp only[ak,aV]at this⊢;omega
structure QI(Q:DM->List Pl)(did:Nat->List Dd)(id cnt:Int):Prop where
 fit:∀l,Fit (Q l)
 cross:∀(s t:DM) (x y:Pl),s≠t->x∈Q s->y∈Q t->x.m.1≠y.m.1
 own:∀l x,x∈Q l->x.m.1%4=id->x.m.1<4*cnt
 ways:∀j x,x∈Q (az j)->x.m.1%4=id
 sh:∀l x,x∈Q l->(x.u=-1/\x.t=aj)\/(0<=x.u/\x.u<5)
 put:∀u d,u<5->d∈did u->d.1=ac->d.3=A9 id d.m/\(⟨d.m,(u:Int),aj⟩:Pl)∈Q d.3/\d.m.1%4=id
 took:∀u d,u<5->d∈did u->d.1=aj->∃s,d.3=ah s/\(⟨d.m,(u:Int),ac⟩:Pl)∈Q (ah s)
 pdist:∀u,u<5->(Aj (did u)).Pairwise λa b=>a.1≠b.1
section
variable{Q:DM->List Pl}{did:Nat->List Dd}{id cnt:Int}
theorem QI.one(h:QI Q did id cnt){s t:ByteArray}{x y:Pl}(hx:x∈Q (ah s))(b:y∈Q (ah t))(e:x.m.1=y.m.1):s=t/\x=y:=by
 by_cases a:s=t
 ·subst a;exact⟨rfl,Z4 (h.1 _).2 hx b e⟩
 ·exact absurd e (h.2 (ah s) (ah t) x y (λq=>a (Sum.inl.inj q)) hx b)
theorem QI.start(id:Int):QI (λ_=>[]) (λ_=>[]) id 0:=⟨λ_=>LN,λ_ _ _ _ _ h=>(by cases h),λ_ _ h=>(by cases h),λ_ _ h=>(by cases h),λ_ _ h=>(by cases h),λ_ _ _ h=>(by cases h),λ_ _ _ h=>(by cases h),λ_ _=>bg⟩
theorem QI.ids(h:QI Q did id cnt){l:DM}{x:Pl}(hx:x∈Q l):0<=x.m.1/\x.m.1<=1099511627776:=by have:=(h.1 l).1 x hx;simp[right,J2]at this;omega
theorem QI.putM(h:QI Q did id cnt)(H:0<=id/\id<=3){m:Mg}{u:Nat}(M:u<5)(hm:m.1=cnt*4+id)(L:right m=ac):QI (AU Q (A9 id m) (Q (A9 id m)++[⟨m,(u:Int),aj⟩])) (Af did u (did u++[⟨ac,m,A9 id m⟩])) id (cnt+1):=by
 have p:m.1%4=id:=O;have c:∀l x,x∈AU Q (A9 id m) (Q (A9 id m)++[⟨m,(u:Int),aj⟩]) l->x∈Q l\/(l=A9 id m/\x=⟨m,(u:Int),aj⟩):=λl x hx=>by
  unfold AU at hx;split at hx
  ·rename_i e;rcases Y.1 hx with h1|h1
   ·exact aN (e▸h1)
   ·exact aK ⟨e,ab.1 h1⟩
  ·exact aN hx
 have hold:∀l x,x∈Q l->x∈AU Q (A9 id m) (Q (A9 id m)++[⟨m,(u:Int),aj⟩]) l:=λl x hx=>by
  unfold AU;split
  ·rename_i e;exact Y.2 (aN (e▸hx))
  ·exact hx
 have f:∀l x,x∈Q l->x.m.1≠m.1:=λl x hx e=>by have:=h.3 l x hx (by rw[e];exact p);omega
 refine⟨λl=>?_,λs t x y o hx w=>?_,λl x hx A=>?_,λj x hx=>?_,λl x hx=>?_,λv d hv g i=>?_,λv d hv g i=>?_,λv hv=>?_⟩
 ·unfold AU;split
  ·exact Jg (h.1 _) L (λx hx=>f _ x hx) rfl
  ·exact h.1 l
 ·rcases c _ x hx with h1|⟨z,rfl⟩
  ·rcases c _ y w with h2|⟨r,rfl⟩
   ·exact h.2 s t x y o h1 h2
   ·exact f _ x h1
  ·rcases c _ y w with h2|⟨r,rfl⟩
   ·exact λe=>f _ y h2 e.symm
   ·exact absurd (z.trans r.symm) o
 ·rcases c _ x hx with h1|⟨-,rfl⟩
  ·have:=h.3 l x h1 A;omega
  ·show m.1<4*(cnt+1);omega
 ·rcases c _ x hx with h1|⟨-,rfl⟩
  ·exact h.4 j x h1
  ·exact p
 ·rcases c _ x hx with h1|⟨-,rfl⟩
  ·exact h.5 l x h1
  ·right;show(0:Int)<=u/\(u:Int)<5;omega
 ·by_cases e:v=u
  ·subst e;rw[Ae]at g;rcases Y.1 g with h1|h1
   ·obtain⟨k,n,q⟩:=h.6 v d hv h1 i;exact⟨k,hold _ _ n,q⟩
   ·obtain rfl:=ab.1 h1;refine⟨rfl,?_,p⟩;rw[Dx];exact Y.2 (aK (ab.2 rfl))
  ·rw[Ab _ _ e]at g;obtain⟨k,n,q⟩:=h.6 v d hv g i;exact⟨k,hold _ _ n,q⟩
 ·by_cases e:v=u
  ·subst e;rw[Ae]at g;rcases Y.1 g with h1|h1
   ·obtain⟨s,k,n⟩:=h.7 v d hv h1 i;exact⟨s,k,hold _ _ n⟩
   ·obtain rfl:=ab.1 h1;cases i
  ·rw[Ab _ _ e]at g;obtain⟨s,k,n⟩:=h.7 v d hv g i;exact⟨s,k,hold _ _ n⟩
 ·by_cases e:v=u
  ·subst e;rw[Ae,Fd _ rfl,bj];refine⟨h.8 v hv,bt _ _,λa B b D=>?_⟩;obtain rfl:=ab.1 D;obtain⟨d,g,i,rfl⟩:=AZ.1 B;exact f _ _ (h.6 v d hv g i).2.1
  ·rw[Ab _ _ e];exact h.8 v hv
theorem QI.getM(h:QI Q did id cnt){s:ByteArray}{x:Pl}{u:Nat}(R:u<5)(hx:x∈Q (ah s))(M:x.free=ac):QI (AU Q (ah s) (hold x.m.1 u (Q (ah s)))) (Af did u (did u++[⟨aj,x.m,ah s⟩])) id cnt:=by
 have N:x.u<0:=by simpa[Pl.free]using M
 have g:∀l y,y∈AU Q (ah s) (hold x.m.1 u (Q (ah s))) l->∃z∈Q l,z.m=y.m/\(y=z\/(y.u=(u:Int)/\y.t=ac)):=λl y f=>by
  unfold AU at f;split at f
  ·rename_i e;unfold hold at f;obtain⟨z,w,rfl⟩:=aM.1 f;refine⟨z,e▸w,?_⟩;split
   ·exact⟨rfl,aK ⟨rfl,rfl⟩⟩
   ·exact⟨rfl,aN rfl⟩
  ·exact⟨y,f,rfl,aN rfl⟩
 have c:∀l y,y∈Q l->(l=ah s->y.m.1≠x.m.1)->y∈AU Q (ah s) (hold x.m.1 u (Q (ah s))) l:=λl y f q=>by
  unfold AU;split
  ·rename_i e;unfold hold;exact aM.2 ⟨y,e▸f,by rw[if_neg (q e)]⟩
  ·exact f
 have i:∀l y,y∈Q l->0<=y.u->(l=ah s->y.m.1≠x.m.1):=λl y f h0 L e=>by subst L;have:=Z4 (h.1 _).2 f hx e;rw[this]at h0;omega
 refine⟨λl=>?_,λa b y z r f w=>?_,λl y f B=>?_,λj y f=>?_,λl y f=>?_,λv d hv n p=>?_,λv d hv n p=>?_,λv hv=>?_⟩
 ·unfold AU;split
  ·exact Na (h.1 _) _ _ O
  ·exact h.1 l
 ·obtain⟨y',h1,h2,-⟩:=g _ y f;obtain⟨P,D,H,-⟩:=g _ z w;rw[<-h2,<-H];exact h.2 a b y' P r h1 D
 ·obtain⟨y',h1,h2,-⟩:=g _ y f;rw[<-h2]at B⊢;exact h.3 l y' h1 B
 ·obtain⟨y',h1,h2,-⟩:=g _ y f;rw[<-h2];exact h.4 j y' h1
 ·obtain⟨y',h1,h2,rfl|⟨D,H⟩⟩:=g _ y f
  ·exact h.5 l y h1
  ·right;omega
 ·by_cases e:v=u
  ·subst e;rw[Ae]at n;rcases Y.1 n with h1|h1
   ·obtain⟨o,k,A⟩:=h.6 v d hv h1 p;exact⟨o,c _ _ k (i _ _ k (by show(0:Int)<=v;omega)),A⟩
   ·obtain rfl:=ab.1 h1;cases p
  ·rw[Ab _ _ e]at n;obtain⟨o,k,A⟩:=h.6 v d hv n p;exact⟨o,c _ _ k (i _ _ k (by show(0:Int)<=v;omega)),A⟩
 ·by_cases e:v=u
  ·subst e;rw[Ae]at n;rcases Y.1 n with h1|h1
   ·obtain⟨t,o,k⟩:=h.7 v d hv h1 p;exact⟨t,o,c _ _ k (i _ _ k (by show(0:Int)<=v;omega))⟩
   ·obtain rfl:=ab.1 h1;refine⟨s,rfl,?_⟩;rw[Dx];unfold hold;exact aM.2 ⟨x,hx,by rw[if_pos rfl]⟩
  ·rw[Ab _ _ e]at n;obtain⟨t,o,k⟩:=h.7 v d hv n p;exact⟨t,o,c _ _ k (i _ _ k (by show(0:Int)<=v;omega))⟩
 ·by_cases e:v=u
  ·subst e;rw[Ae,Fq _ rfl];exact h.8 v hv
  ·rw[Ab _ _ e];exact h.8 v hv
theorem NP{u:Nat}{x:Pl}(h:(x.u=-1/\x.t=aj)\/(0<=x.u/\x.u<5)):((B8 u x).u=-1/\(B8 u x).t=aj)\/(0<=(B8 u x).u/\(B8 u x).u<5):=by
 unfold B8;split
 ·exact aN ⟨rfl,rfl⟩
 ·exact h
theorem QI.back(h:QI Q did id cnt)(u:Nat):QI (SK (AN u ac) Q) (Af did u []) id cnt:=by
 refine⟨λl=>Je (h.1 l) u ac,λs t x y g hx n=>?_,λl x hx m=>?_,λj x hx=>?_,λl x hx=>?_,λv d hv b f=>?_,λv d hv b f=>?_,λv hv=>?_⟩
 ·obtain⟨x',h1,-,rfl⟩:=Br.1 hx;obtain⟨y',h2,-,rfl⟩:=Br.1 n;rw[BY,BY];exact h.2 s t x' y' g h1 h2
 ·obtain⟨x',h1,-,rfl⟩:=Br.1 hx;rw[BY]at m⊢;exact h.3 l x' h1 m
 ·obtain⟨x',h1,-,rfl⟩:=Br.1 hx;rw[BY];exact h.4 j x' h1
 ·obtain⟨x',h1,-,rfl⟩:=Br.1 hx;exact NP (h.5 l x' h1)
 ·by_cases e:v=u
  ·subst e;rw[Ae]at b;cases b
  ·rw[Ab _ _ e]at b;have a:((v:Int))≠(u:Int):=O;obtain⟨i,k,o⟩:=h.6 v d hv b f;exact⟨i,Br.2 ⟨_,k,λc=>a c.1,(CU a).symm⟩,o⟩
 ·by_cases e:v=u
  ·subst e;rw[Ae]at b;cases b
  ·rw[Ab _ _ e]at b;have a:((v:Int))≠(u:Int):=O;obtain⟨s,i,k⟩:=h.7 v d hv b f;exact⟨s,i,Br.2 ⟨_,k,λc=>a c.1,(CU a).symm⟩⟩
 ·by_cases e:v=u
  ·subst e;rw[Ae];exact bg
  ·rw[Ab _ _ e];exact h.8 v hv
theorem QI.gone(h:QI Q did id cnt){i:Nat}{ids:List Int}(p:∀z∈ids,∃x∈Q (az i),x.m.1=z/\x.u<0):QI (AU Q (az i) (Al ids (Q (az i)))) did id cnt:=by
 have a:∀l x,x∈AU Q (az i) (Al ids (Q (az i))) l->x∈Q l:=λl x hx=>by
  unfold AU at hx;split at hx
  ·rename_i e;rw[e];exact(Bt.1 hx).1
  ·exact hx
 refine⟨λl=>?_,λs t x y k hx q=>h.2 s t x y k (a _ x hx) (a _ y q),λl x hx=>h.3 l x (a _ x hx),λj x hx=>h.4 j x (a _ x hx),λl x hx=>h.5 l x (a _ x hx),λv d hv b g=>?_,λv d hv b g=>?_,h.8⟩
 ·unfold AU;split
  ·exact Jf (h.1 _) _
  ·exact h.1 l
 ·obtain⟨n,c,w⟩:=h.6 v d hv b g;refine⟨n,?_,w⟩;unfold AU;split
  ·rename_i e;rw[e]at c;refine Bt.2 ⟨c,λr=>?_⟩;obtain⟨x,hx,o,f⟩:=p _ r;have:=Z4 (h.1 _).2 hx c o;rw[this]at f;have f:(v:Int)<0:=f;omega
  ·exact c
 ·obtain⟨s,n,c⟩:=h.7 v d hv b g;refine⟨s,n,?_⟩;rw[BB _ _ oS];exact c
def BZ(Q:DM->List Pl)(u:Nat)(ds:List Dd):DM->List Pl:=λl=>Al (D1 l ds) (AN u ac (Q l))++D6 l ds
theorem CI{l:DM}{ds:List Dd}{x:Pl}:x∈D6 l ds↔∃d∈ds,d.1=ac/\d.3=l/\x=fr d.m:=by
 unfold D6;rw[aM];constructor
 ·rintro⟨d,b,rfl⟩;obtain⟨h1,h2⟩:=G.1 b;simp only[bb,decide_eq_true_eq]at h2;exact⟨d,h1,h2.1,h2.2,rfl⟩
 ·rintro⟨d,h1,h2,a,rfl⟩;exact⟨d,G.2 ⟨h1,by simp[h2,a]⟩,rfl⟩
theorem Cr{l:DM}{ds:List Dd}{z:Int}:z∈D1 l ds↔∃d∈ds,d.1=aj/\d.3=l/\d.m.1=z:=by
 unfold D1;rw[aM];constructor
 ·rintro⟨d,b,rfl⟩;obtain⟨h1,h2⟩:=G.1 b;simp only[bb,decide_eq_true_eq,bH]at h2;exact⟨d,h1,h2.1,h2.2,rfl⟩
 ·rintro⟨d,h1,h2,a,rfl⟩;exact⟨d,G.2 ⟨h1,by simp[h2,a]⟩,rfl⟩
theorem EF(l:DM)(ds:List Dd):D6 l ds=(Aj (ds.filter λd=>aU (d.3=l))).map fr:=by unfold D6 Aj;rw[ch,bC];rfl
theorem Uu{ds es:List Dd}(h:es.Sublist ds):(Aj es).Sublist (Aj ds):=(h.filter _).map _
theorem QI.far(h:QI Q did id cnt){u:Nat}(f:u<5){d:Dd}(a:d∈did u)(c:d.1=ac):∀x∈AN u ac (Q d.3),x.m.1≠d.m.1:=λx hx e=>by obtain⟨y,g,b,rfl⟩:=Br.1 hx;rw[BY]at e;have:=Z4 (h.1 _).2 g (h.6 u d f a c).2.1 e;exact b (by rw[this];exact⟨rfl,rfl⟩)
theorem QI.right_put(h:QI Q did id cnt){u:Nat}(c:u<5){d:Dd}(a:d∈did u)(b:d.1=ac):right d.m=ac:=(h.1 _).1 _ (h.6 u d c a b).2.1
theorem QI.overM(h:QI Q did id cnt){u:Nat}(k:u<5):QI (BZ Q u (did u)) (Af did u []) id cnt/\∀l x,x∈BZ Q u (did u) l->∃z∈Q l,z.m=x.m:=by
 have a:∀l x,x∈BZ Q u (did u) l->∃z∈Q l,z.m=x.m/\((x.u=-1/\x.t=aj)\/(0<=x.u/\x.u<5)):=λl x hx=>by
  rcases Y.1 hx with h1|h1
  ·obtain⟨y,o,M,rfl⟩:=Br.1 (Bt.1 h1).1;exact⟨y,o,(BY _ _).symm,NP (h.5 l y o)⟩
  ·obtain⟨d,b,f,rfl,rfl⟩:=CI.1 h1;exact⟨_,(h.6 u d k b f).2.1,rfl,aN ⟨rfl,rfl⟩⟩
 have c:∀l x,x∈Q l->x.u≠(u:Int)->0<=x.u->x∈BZ Q u (did u) l:=λl x hx g h0=>by refine Y.2 (aN (Bt.2 ⟨Br.2 ⟨x,hx,λe=>g e.1,(CU g).symm⟩,λH=>?_⟩));obtain⟨d,b,f,w,e⟩:=Cr.1 H;obtain⟨s,i,n⟩:=h.7 u d k b f;rw[w]at i;subst i;have:=Z4 (h.1 _).2 hx n e.symm;rw[this]at g;exact g rfl
 refine⟨⟨λl=>?_,λs t x y A hx o=>?_,λl x hx B=>?_,λj x hx=>?_,λl x hx=>?_,λv d hv b f=>?_,λv d hv b f=>?_,λv hv=>?_⟩,λl x hx=>by obtain⟨z,h1,h2,-⟩:=a l x hx;exact⟨z,h1,h2⟩⟩
 ·unfold BZ;rw[EF];refine LM _ (Jf (Je (h.1 l) u ac) _) (λm hm=>?_) ((h.8 u k).sublist (Uu aS)) (λm hm x hx=>?_)
  ·obtain⟨d,b,f,rfl⟩:=AZ.1 hm;exact h.right_put k (G.1 b).1 f
  ·obtain⟨d,b,f,rfl⟩:=AZ.1 hm;obtain⟨q,r⟩:=G.1 b;have w:d.3=l:=by simpa using r
   subst w;exact h.far k q f x (Bt.1 hx).1
 ·obtain⟨x',h1,h2,-⟩:=a _ x hx;obtain⟨y',p,D,-⟩:=a _ y o;rw[<-h2,<-D];exact h.2 s t x' y' A h1 p
 ·obtain⟨x',h1,h2,-⟩:=a _ x hx;rw[<-h2]at B⊢;exact h.3 l x' h1 B
 ·obtain⟨x',h1,h2,-⟩:=a _ x hx;rw[<-h2];exact h.4 j x' h1
 ·obtain⟨x',h1,h2,p⟩:=a _ x hx;exact p
 ·by_cases e:v=u
  ·subst e;rw[Ae]at b;cases b
  ·rw[Ab _ _ e]at b;obtain⟨i,n,L⟩:=h.6 v d hv b f;exact⟨i,c _ _ n (by show(v:Int)≠u;omega) (by show(0:Int)<=v;omega),L⟩
 ·by_cases e:v=u
  ·subst e;rw[Ae]at b;cases b
  ·rw[Ab _ _ e]at b;obtain⟨s,i,n⟩:=h.7 v d hv b f;exact⟨s,i,c _ _ n (by show(v:Int)≠u;omega) (by show(0:Int)<=v;omega)⟩
 ·by_cases e:v=u
  ·subst e;rw[Ae];exact bg
  ·rw[Ab _ _ e];exact h.8 v hv
theorem NX(h:QI Q did id cnt){u:Nat}(j:u<5)(s:ByteArray):FC s (Cx id (Aj (did u)))=D6 (ah s) (did u):=by
 have f:∀d∈did u,d.1=ac->d.3=A9 id d.m:=λd g q=>(h.6 u d j g q).1;unfold FC Cx Aj D6;generalize did u=ds at f;induction ds with
 |nil=>rfl
 |cons d r b=>
  have b:=b (λe i=>f e (ag _ i));cases hb:d.1 with
  |false=>rw[aa (by simp[hb]),aa (p:=λd:Dd=>d.1&&aU (d.3=ah s)) (by simp[hb])];exact b
  |true=>
   have a:=f d (am ..) hb;unfold A9 at a;rw[ae (by simp[hb]),aT];by_cases c:d.m.5=id
   ·rw[if_pos c]at a;rw[ae (by simp[c])];by_cases hq:d.m.4=s
    ·rw[ae (by simp[hq]),aT,b,ae (by simp[hb,a,hq])];rfl
    ·rw[aa (by simp[hq]),b,aa (p:=λd:Dd=>d.1&&aU (d.3=ah s)) (by simp[a,hq])]
   ·rw[if_neg c]at a;rw[aa (by simp[c]),b,aa (p:=λd:Dd=>d.1&&aU (d.3=ah s)) (by simp[a])]
theorem NY(h:QI Q did id cnt){u:Nat}(k:u<5)(j:Nat):Zt j (Dz id (Aj (did u)))=D6 (az j) (did u):=by
 have f:∀d∈did u,d.1=ac->d.3=A9 id d.m:=λd g q=>(h.6 u d k g q).1;unfold Zt Dz Aj D6;generalize did u=ds at f;induction ds with
 |nil=>rfl
 |cons d r b=>
  have b:=b (λe i=>f e (ag _ i));cases hb:d.1 with
  |false=>rw[aa (by simp[hb]),aa (p:=λd:Dd=>d.1&&aU (d.3=az j)) (by simp[hb])];exact b
  |true=>
   have a:=f d (am ..) hb;unfold A9 at a;rw[ae (by simp[hb]),aT];by_cases c:d.m.5=id
   ·rw[if_pos c]at a;rw[aa (by simp[c]),b,aa (p:=λd:Dd=>d.1&&aU (d.3=az j)) (by simp[a])]
   ·rw[if_neg c]at a;rw[ae (by simp[c])];by_cases hq:d.m.5.toNat=j
    ·rw[ae (by simp[hq]),aT,b,ae (by simp[hb,a,hq])];rfl
    ·rw[aa (by simp[hq]),b,aa (p:=λd:Dd=>d.1&&aU (d.3=az j)) (by simp[a,hq])]
theorem UT(h:QI Q did id cnt){u:Nat}(g:u<5)(s:ByteArray){A:List Pl}(f:∀x∈A,∃z∈Q (ah s),z.m.1=x.m.1):Al (An (did u)) A=Al (D1 (ah s) (did u)) A:=by
 refine Rv (λx hx=>?_);rw[CJ,Cr];constructor
 ·rintro⟨d,a,b,e⟩;refine⟨d,a,b,?_,e⟩;obtain⟨t,j,k⟩:=h.7 u d g a b;obtain⟨z,i,c⟩:=f x hx;rw[j,(h.one k i (e.trans c.symm)).1]
 ·rintro⟨d,a,b,-,e⟩;exact⟨d,a,b,e⟩
theorem Hy(h:QI Q did id cnt){u:Nat}(e:u<5)(j:Nat):D1 (az j) (did u)=[]:=by apply List.eq_nil_iff_forall_not_mem.2;intro z f;obtain⟨d,b,c,a,-⟩:=Cr.1 f;obtain⟨s,g,-⟩:=h.7 u d e b c;rw[g]at a;cases a
theorem QI.over_prog(h:QI Q did id cnt){u:Nat}(f:u<5):(∀s,As (λs=>Al (An (did u)) (AN u ac (Q (ah s)))) (Cx id (Aj (did u))) s=BZ Q u (did u) (ah s))/\(∀j,AM (λj=>AN u ac (Q (az j))) (Dz id (Aj (did u))) j=BZ Q u (did u) (az j))/\(∀s,As (λs=>Al (An (did u)) (Ap (Q (ah s)))) (Cx id (Aj (did u))) s=Ap (BZ Q u (did u) (ah s)))/\(∀j,AM (λj=>Ap (Q (az j))) (Dz id (Aj (did u))) j=Ap (BZ Q u (did u) (az j))):=by
 have q:∀m∈Cx id (Aj (did u)),right m=ac:=λm hm=>by obtain⟨d,g,i,rfl⟩:=AZ.1 (G.1 hm).1;exact h.right_put f g i
 have r:∀m∈Dz id (Aj (did u)),right m=ac:=λm hm=>by obtain⟨d,g,i,rfl⟩:=AZ.1 (G.1 hm).1;exact h.right_put f g i
 have o:(Cx id (Aj (did u))).Pairwise λa b=>a.1≠b.1:=(h.8 u f).sublist aS;have p:(Dz id (Aj (did u))).Pairwise λa b=>a.1≠b.1:=(h.8 u f).sublist aS;have t:∀m∈Cx id (Aj (did u)),∀x∈AN u ac (Q (ah m.4)),x.m.1≠m.1:=λm hm=>by obtain⟨h1,h2⟩:=G.1 hm;obtain⟨d,g,i,rfl⟩:=AZ.1 h1;have k:=(h.6 u d f g i).1;unfold A9 at k;rw[if_pos (by simpa using h2)]at k;have:=h.far f g i;rw[k]at this;exact this
 have v:∀m∈Dz id (Aj (did u)),∀x∈AN u ac (Q (az m.5.toNat)),x.m.1≠m.1:=λm hm=>by obtain⟨h1,h2⟩:=G.1 hm;obtain⟨d,g,i,rfl⟩:=AZ.1 h1;have k:=(h.6 u d f g i).1;unfold A9 at k;rw[if_neg (by simpa using h2)]at k;have:=h.far f g i;rw[k]at this;exact this
 have c:∀l x,x∈Ap (Q l)->∃y∈AN u ac (Q l),y.m=x.m:=λl x hx=>by rw[<-Bi u]at hx;obtain⟨y,n,-,rfl⟩:=A7.1 hx;exact⟨y,n,rfl⟩
 have tk:∀s,Al (An (did u)) (AN u ac (Q (ah s)))=Al (D1 (ah s) (did u)) (AN u ac (Q (ah s))):=λs=>UT h f s (λx hx=>by obtain⟨y,n,-,rfl⟩:=Br.1 hx;exact⟨y,n,by rw[BY]⟩);refine⟨λs=>?_,λj=>?_,λs=>?_,λj=>?_⟩
 ·rw[Fb _ _ q o (λm hm x hx=>t m hm x (Bt.1 hx).1),NX h f,tk];rfl
 ·rw[Iv _ _ r p v,NY h f];unfold BZ;rw[Hy h f];rfl
 ·rw[Fb _ _ q o (λm hm x hx=>by obtain⟨y,n,e⟩:=c _ x (Bt.1 hx).1;rw[<-e];exact t m hm y n),NX h f];unfold BZ;rw[Du,Bz,Bi,EF,Fk,<-Bz,<-Bz,<-Bi u,<-Bi u,Bi,Bi];congr 1;rw[Bz,Bz,<-Bi u,<-Bz,<-Bz,tk]
 ·rw[Iv _ _ r p (λm hm x hx=>by obtain⟨y,n,e⟩:=c _ x hx;rw[<-e];exact v m hm y n),NY h f];unfold BZ;rw[Hy h f,Du,EF,Fk];show Ap (Q (az j))++_=Ap (AN u ac (Q (az j)))++_;rw[Bi]
end
def C9(Q:DM->List Pl)(ks:List ByteArray):Nat:=(ks.map λs=>(Q (ah s)).length).sum
theorem Ct(Q:DM->List Pl)(s:ByteArray)(ks:List ByteArray):C9 Q (s::ks)=(Q (ah s)).length+C9 Q ks:=by simp[C9]
theorem UP(ks:List ByteArray):C9 (λ_=>[]) ks=0:=by
 induction ks with
 |nil=>rfl
 |cons s r ih=>rw[Ct,ih];rfl
theorem GD{Q Q':DM->List Pl}{ks:List ByteArray}(h:∀s,(Q' (ah s)).length<=(Q (ah s)).length):C9 Q' ks<=C9 Q ks:=by
 induction ks with
 |nil=>exact Nat.le_refl _
 |cons s r ih=>rw[Ct,Ct];have:=h s;omega
theorem R1{Q Q':DM->List Pl}{ks:List ByteArray}(h:∀s∈ks,Q' (ah s)=Q (ah s)):C9 Q' ks=C9 Q ks:=by
 induction ks with
 |nil=>rfl
 |cons s r ih=>rw[Ct,Ct,h s (List.mem_cons_self ..),ih (λt a=>h t (List.mem_cons_of_mem _ a))]
theorem JR{Q Q':DM->List Pl}{t:ByteArray}{k:Nat}{ks:List ByteArray}(a:ks.Nodup)(h:∀s,s≠t->Q' (ah s)=Q (ah s))(c:(Q' (ah t)).length<=(Q (ah t)).length+k):C9 Q' ks<=C9 Q ks+k:=by
 induction ks with
 |nil=>exact Nat.zero_le _
 |cons s r ih=>
  obtain⟨h1,h2⟩:=List.nodup_cons.1 a;rw[Ct,Ct];by_cases e:s=t
  ·subst e;have:=R1 (Q:=Q) (Q':=Q') (ks:=r) (λu b=>h u (λq=>h1 (q▸b)));omega
  ·have:=ih h2;rw[h s e];omega
def arrQ(Q:DM->List Pl)(q d:List Mg):DM->List Pl
 |.inl s=>Q (.inl s)++FC s q++(if s=AF then d.map fr else [])
 |.inr j=>Q (.inr j)
theorem YE(s:ByteArray)(ms:List Mg):FC s ms=(ms.filter λm=>aU (m.4=s)).map fr:=rfl
section
variable{ns:List Nm}{Q:DM->List Pl}{l:List Mg}
theorem Ur(ns:List Nm)(A:ByteArray->List Pl)(l:List Mg):∀k,k<=l.length->(∀m∈(Az ns A (l.take k)).q,Ek ns m.4=ac)/\(∀m∈l.take k,m∈(Az ns A (l.take k)).q\/m∈(Az ns A (l.take k)).d):=by
 intro k;induction k with
 |zero=>intro _;exact⟨λm hm=>by simp[Az]at hm,λm hm=>by simp at hm⟩
 |succ k ih=>
  intro hk;obtain⟨h1,h2⟩:=ih O;obtain⟨m,hm⟩:∃m,l[k]?=J m:=⟨_,aF O⟩;have a:l.take (k+1)=l.take k++[m]:=by rw[bh,hm,be]
  rw[a,FW];generalize Az ns A (l.take k)=p at h1 h2;unfold EE;split
  ·rename_i ho;refine⟨λx hx=>?_,λx hx=>?_⟩
   ·rcases Y.1 hx with hx|hx
    ·exact h1 x hx
    ·obtain rfl:=ab.1 hx;exact ho.1
   ·rcases Y.1 hx with hx|hx
    ·exact(h2 x hx).imp (aI _) id
    ·exact aN (aX _ hx)
  ·refine⟨h1,λx hx=>?_⟩;rcases Y.1 hx with hx|hx
   ·exact(h2 x hx).imp id (aI _)
   ·exact aK (aX _ hx)
theorem Uq(ns:List Nm)(A:ByteArray->List Pl)(l:List Mg):∀k,k<=l.length->(∀m,m∈(Az ns A (l.take k)).q\/m∈(Az ns A (l.take k)).d->m∈l.take k)/\((l.Pairwise λa b=>a.1≠b.1)->(Az ns A (l.take k)).q.Pairwise (λa b=>a.1≠b.1)/\(Az ns A (l.take k)).d.Pairwise (λa b=>a.1≠b.1)/\∀a∈(Az ns A (l.take k)).q,∀b∈(Az ns A (l.take k)).d,a.1≠b.1):=by
 intro k;induction k with
 |zero=>intro _;exact⟨λm hm=>by simp[Az]at hm,λ_=>⟨by simp[Az],by simp[Az],λa c=>by simp[Az]at c⟩⟩
 |succ k ih=>
  intro hk;obtain⟨h1,h2⟩:=ih O;obtain⟨m,hm⟩:∃m,l[k]?=J m:=⟨_,aF O⟩;have n:l.take (k+1)=l.take k++[m]:=by rw[bh,hm,be]
  have h:(l.Pairwise λa b=>a.1≠b.1)->∀x∈l.take k,x.1≠m.1:=λg x hx=>by have:=g.sublist (bZ (k+1) l);rw[n,bj]at this;exact this.2.2 x hx m (ab.2 rfl)
  rw[n,FW];generalize Az ns A (l.take k)=p at h1 h2;unfold EE;split
  ·refine⟨λx hx=>?_,λg=>?_⟩
   ·rcases hx with hx|hx
    ·rcases Y.1 hx with hx|hx
     ·exact aI _ (h1 x (aN hx))
     ·exact aX _ hx
    ·exact aI _ (h1 x (aK hx))
   ·obtain⟨g1,i,j⟩:=h2 g;refine⟨?_,i,λa c b f=>?_⟩
    ·show(p.q++[m]).Pairwise _;rw[bj];exact⟨g1,bt _ _,λa c b f=>by obtain rfl:=ab.1 f;exact h g a (h1 a (aN c))⟩
    ·rcases Y.1 c with c|c
     ·exact j a c b f
     ·obtain rfl:=ab.1 c;exact λe=>h g b (h1 b (aK f)) e.symm
  ·refine⟨λx hx=>?_,λg=>?_⟩
   ·rcases hx with hx|hx
    ·exact aI _ (h1 x (aN hx))
    ·rcases Y.1 hx with hx|hx
     ·exact aI _ (h1 x (aK hx))
     ·exact aX _ hx
   ·obtain⟨g1,i,j⟩:=h2 g;refine⟨g1,?_,λa c b f=>?_⟩
    ·show(p.d++[m]).Pairwise _;rw[bj];exact⟨i,bt _ _,λa c b f=>by obtain rfl:=ab.1 f;exact h g a (h1 a (aK c))⟩
    ·rcases Y.1 f with f|f
     ·exact j a c b f
     ·obtain rfl:=ab.1 f;exact h g a (h1 a (aN c))
end
structure New(Q:DM->List Pl)(id:Int)(q d:List Mg):Prop where
 rq:∀m∈q,right m=ac
 rd:∀m∈d,right m=ac
 pq:q.Pairwise λa b=>a.1≠b.1
 pd:d.Pairwise λa b=>a.1≠b.1
 pp:∀a∈q,∀b∈d,a.1≠b.1
 nd:∀m∈q,m.4≠AF
 new:∀m,m∈q\/m∈d->∀(s:ByteArray) x,x∈Q (ah s)->x.m.1≠m.1
 far:∀m,m∈q\/m∈d->m.1%4≠id
section
variable{Q:DM->List Pl}{did:Nat->List Dd}{id cnt:Int}{q d:List Mg}
theorem mem_arrQ{Q:DM->List Pl}{q d:List Mg}{s:ByteArray}{x:Pl}(hx:x∈arrQ Q q d (ah s)):x∈Q (ah s)\/∃m,x=fr m/\((m∈q/\m.4=s)\/(m∈d/\s=AF)):=by
 rcases Y.1 hx with hx|hx
 ·rcases Y.1 hx with hx|hx
  ·exact aN hx
  ·obtain⟨m,h1,h2,rfl⟩:=Gn.1 hx;exact aK ⟨m,rfl,aN ⟨h1,h2⟩⟩
 ·split at hx
  ·rename_i e;obtain⟨m,h1,rfl⟩:=aM.1 hx;exact aK ⟨m,rfl,aK ⟨h1,e⟩⟩
  ·cases hx
theorem New.prog(h:New Q id q d){A:ByteArray->List Pl}(c:∀s,∀x∈A s,∃y∈Q (ah s),y.m=x.m):∀s,AL (As A q) d s=A s++FC s q++(if s=AF then d.map fr else []):=by
 have e:=Fb q A h.1 h.3 (λm hm x hx=>by obtain⟨y,b,e⟩:=c _ x hx;rw[<-e];exact h.7 m (aN hm) _ y b);intro s;rw[M0 d _ h.2 h.4,e s];intro m hm x hx;rw[e]at hx;rcases Y.1 hx with hx|hx
 ·obtain⟨y,b,e⟩:=c _ x hx;rw[<-e];exact h.7 m (aK hm) _ y b
 ·obtain⟨a,f,-,rfl⟩:=Gn.1 hx;exact h.5 a f m hm
theorem New.fit(h:New Q id q d)(b:∀l,Fit (Q l)):∀l,Fit (arrQ Q q d l):=λl=>by
 cases l with
 |inr j=>exact b _
 |inl s=>
  show Fit (Q (ah s)++FC s q++(if s=AF then d.map fr else []));have h1:Fit (Q (ah s)++FC s q):=by rw[YE];exact LM _ (b _) (λm hm=>h.1 m (G.1 hm).1) (h.3.sublist aS) (λm hm x hx=>h.7 m (aN (G.1 hm).1) s x hx)
  split
  ·refine LM _ h1 h.2 h.4 (λm hm x hx=>?_);rcases Y.1 hx with hx|hx
   ·exact h.7 m (aK hm) s x hx
   ·obtain⟨a,c,-,rfl⟩:=Gn.1 hx;exact h.5 a c m hm
  ·rw[List.append_nil];exact h1
theorem QI.arrM(h:QI Q did id cnt)(n:New Q id q d):QI (arrQ Q q d) did id cnt:=by
 have hold:∀l x,x∈Q l->x∈arrQ Q q d l:=λl x hx=>by
  cases l with
  |inr j=>exact hx
  |inl s=>exact List.mem_append.2 (.inl (List.mem_append.2 (.inl hx)))
 refine⟨n.fit h.1,λs t x y f hx m=>?_,λl x hx w=>?_,λj x hx=>h.4 j x hx,λl x hx=>?_,λv e hv A p=>?_,λv e hv A p=>?_,h.8⟩
 ·cases s with
  |inr i=>
   cases t with
   |inr j=>exact h.2 _ _ x y f hx m
   |inl t=>
    rcases mem_arrQ m with m|⟨b,rfl,g⟩
    ·exact h.2 _ _ x y f hx m
    ·exact λe=>n.8 b (g.imp (λq=>q.1) (λq=>q.1)) (by have:=h.4 i x hx;rw[e]at this;exact this)
  |inl s=>
   cases t with
   |inr j=>
    rcases mem_arrQ hx with hx|⟨a,rfl,k⟩
    ·exact h.2 _ _ x y f hx m
    ·exact λe=>n.8 a (k.imp (λq=>q.1) (λq=>q.1)) (by have:=h.4 j y m;rw[<-e]at this;exact this)
   |inl t=>
    have o:=f;have f:s≠t:=λq=>o (by rw[q]);rcases mem_arrQ hx with hx|⟨a,rfl,k⟩
    ·rcases mem_arrQ m with m|⟨b,rfl,g⟩
     ·exact h.2 _ _ x y o hx m
     ·exact n.7 b (g.imp (λq=>q.1) (λq=>q.1)) s x hx
    ·rcases mem_arrQ m with m|⟨b,rfl,g⟩
     ·exact λe=>n.7 a (k.imp (λq=>q.1) (λq=>q.1)) t y m e.symm
     ·rcases k with⟨k,z⟩|⟨k,z⟩
      ·rcases g with⟨g,eb⟩|⟨g,eb⟩
       ·intro e;have B:a≠b:=λq=>f (by rw[<-z,<-eb,q]);have:∀{ms:List Mg},(ms.Pairwise λa b=>a.1≠b.1)->a∈ms->b∈ms->a.1=b.1->a=b:=λ{ms} p=>by
         induction ms with
         |nil=>intro h;cases h
         |cons c r ih=>
          intro h1 h2 e;obtain⟨P,R⟩:=aA.1 p;rcases aP.1 h1 with M|N
          ·rcases aP.1 h2 with u|D
           ·rw[M,u]
           ·exact absurd e (M▸P b D)
          ·rcases aP.1 h2 with u|D
           ·exact absurd e.symm (u▸P a N)
           ·exact ih R N D e
        exact B (this n.3 k g e)
       ·exact n.5 a k b g
      ·rcases g with⟨g,eb⟩|⟨g,eb⟩
       ·exact λe=>n.5 b g a k e.symm
       ·exact absurd (z.trans eb.symm) f
 ·cases l with
  |inr j=>exact h.3 _ x hx w
  |inl s=>
   rcases mem_arrQ hx with hx|⟨a,rfl,k⟩
   ·exact h.3 _ x hx w
   ·exact absurd w (n.8 a (k.imp (λq=>q.1) (λq=>q.1)))
 ·cases l with
  |inr j=>exact h.5 _ x hx
  |inl s=>
   rcases mem_arrQ hx with hx|⟨a,rfl,k⟩
   ·exact h.5 _ x hx
   ·exact aN ⟨rfl,rfl⟩
 ·obtain⟨H,L,S⟩:=h.6 v e hv A p;exact⟨H,hold _ _ L,S⟩
 ·obtain⟨s,H,L⟩:=h.7 v e hv A p;exact⟨s,H,hold _ _ L⟩
theorem IX(s:ByteArray):Ap (arrQ Q q d (ah s))=Ap (Q (ah s))++FC s q++(if s=AF then d.map fr else []):=by
 show Ap (Q (ah s)++FC s q++(if s=AF then d.map fr else []))=_;rw[Du,Du,QD];congr 1;split
 ·exact Fk _
 ·rfl
theorem QI.anew(h:QI Q did id cnt){c:Int}(hc:∀l x,x∈Ap (Q l)->x.m.1%4=id->x.m.1<4*c):QI (λl=>Ap (Q l)) (λ_=>[]) id c:=by
 have hm:∀l x,x∈Ap (Q l)->∃y∈Q l,x=⟨y.m,-1,aj⟩:=λl x hx=>by obtain⟨y,h1,-,h2⟩:=A7.1 hx;exact⟨y,h1,h2⟩
 refine⟨λl=>?_,λs t x y a hx b=>?_,hc,λj x hx=>?_,λl x hx=>?_,λ_ _ _ h=>(by cases h),λ_ _ _ h=>(by cases h),λ_ _=>bg⟩
 ·exact II (Ez (h.1 l) _) _ (λ_=>rfl) (λx _ hx=>by cases hx)
 ·obtain⟨x',h1,rfl⟩:=hm _ x hx;obtain⟨y',h2,rfl⟩:=hm _ y b;exact h.2 s t x' y' a h1 h2
 ·obtain⟨x',h1,rfl⟩:=hm _ x hx;exact h.4 j x' h1
 ·obtain⟨x',h1,rfl⟩:=hm _ x hx;exact aN ⟨rfl,rfl⟩
end
theorem UQ(Q:DM->List Pl)(d:List Mg){ks:List ByteArray}(a:ks.Nodup):∀(q:List Mg),C9 (arrQ Q q d) ks<=C9 Q ks+(q.length+d.length):=by
 intro q;induction q with
 |nil=>
  refine JR (t:=AF) a (λs hs=>?_) ?_
  ·show Q (ah s)++FC s []++(if s=AF then d.map fr else [])=Q (ah s);rw[if_neg hs];simp[FC]
  ·show(Q (ah AF)++FC AF []++(if AF=AF then d.map fr else [])).length<=_;rw[if_pos rfl];simp[FC]
 |cons m r ih=>
  have h1:C9 (arrQ Q (m::r) d) ks<=C9 (arrQ Q r d) ks+1:=by
   refine JR (t:=m.4) a (λs hs=>?_) ?_
   ·show Q (ah s)++FC s (m::r)++_=Q (ah s)++FC s r++_;rw[JV,if_neg (λe=>hs e.symm)]
   ·show(Q (ah m.4)++FC m.4 (m::r)++(if m.4=AF then d.map fr else [])).length<=(Q (ah m.4)++FC m.4 r++(if m.4=AF then d.map fr else [])).length+1;rw[JV,if_pos rfl];simp only[ak,aV];omega
  rw[aV];omega
structure LogI(d:Dk)(chs:List Ch):Prop where
 ok:∀c∈chs,c.ok
 ck:∀c∈chs,YV c
 pl:∀(j:Nat) (c:Ch),chs[j]?=J c->d.1[j]?=J (bs c.text)
 len:d.1.length=300
 dk:F2 d chs.length
 cl:∀(j:Nat) (s:ByteArray),chs.length<j->d.1[j]?=J s->s=⟨#[]⟩
def Tg(d:Dk)(k:Nat)(c:Ch):Dk:={d with places:=d.1.set k (bs c.text),left:=if d.2=ac then d.3-1 else d.3}
def Ze(d:Dk)(k:Nat)(c:Ch)(torn:Int):Dk:=if 0<=torn then{d with places:=d.1.set k (EP (bs c.text) torn)}else d
theorem LogI.write{d:Dk}{chs:List Ch}(h:LogI d chs){c:Ch}(hc:c.ok)(hk:YV c)(m:chs.length<300)(k:¬(d.2=ac/\d.3=0)):LogI (Tg d chs.length c) (chs++[c]):=by
 have b:=h.4;refine⟨λx hx=>?_,λx hx=>?_,λj x hj=>?_,by show(d.1.set _ _).length=300;rw[cf];exact b,?_,λj s hj hs=>?_⟩
 ·rcases Y.1 hx with hx|hx
  ·exact h.1 x hx
  ·obtain rfl:=ab.1 hx;exact hc
 ·rcases Y.1 hx with hx|hx
  ·exact h.2 x hx
  ·obtain rfl:=ab.1 hx;exact hk
 ·by_cases e:j<chs.length
  ·rw[List.getElem?_append_left e]at hj;show(d.1.set chs.length _)[j]?=_;rw[aZ O];exact h.3 j x hj
  ·rw[List.getElem?_append_right O]at hj;have f:j-chs.length=0:=by have:=(bm.1 hj).1;simp at this;omega
   rw[f]at hj;obtain rfl:=bN hj;obtain rfl:j=chs.length:=O;show(d.1.set chs.length _)[chs.length]?=_;rw[bM O]
 ·rw[ak,ao];have g:=h.5.2;have l:=h.5.3;refine⟨O,?_,?_,λs hs=>?_⟩
  ·show 0<=if d.2=ac then d.3-1 else d.3;split
   ·rename_i hfl;have:d.3≠0:=λe=>k ⟨hfl,e⟩;omega
   ·exact g
  ·show(if d.2=ac then d.3-1 else d.3)<=_;split<;>omega
  ·have a:(d.1.set chs.length (bs c.text))[chs.length+1]?=J s:=hs;rw[aZ O]at a;rw[h.6 _ s O a];exact⟨by simp[ByteArray.size],oD⟩
 ·rw[ak,ao]at hj;have a:(d.1.set chs.length (bs c.text))[j]?=J s:=hs;rw[aZ O]at a;exact h.6 j s O a
theorem LogI.torn{d:Dk}{chs:List Ch}(h:LogI d chs){c:Ch}(hc:c.ok)(b:chs.length<300)(torn:Int):LogI (Ze d chs.length c torn) chs:=by
 have a:=h.4;unfold Ze;split
 ·refine⟨h.1,h.2,λj x hj=>?_,by rw[cf];exact a,⟨h.5.1,h.5.2,h.5.3,λs hs=>?_⟩,λj s hj hs=>?_⟩
  ·have:j<chs.length:=(bm.1 hj).1;rw[aZ O];exact h.3 j x hj
  ·rw[bM O]at hs;obtain rfl:=bN hs;exact R8 c hc torn
  ·rw[aZ O]at hs;exact h.6 j s hj hs
 ·exact h
theorem LogI.cut{d:Dk}{chs:List Ch}(h:LogI d chs)(n:Int)(a:n<=9223372036854775807):LogI (d.cut n) chs:=⟨h.1,h.2,h.3,h.4,⟨h.5.1,by show 0<=max n 0;omega,by show max n 0<=_;omega,h.5.4⟩,h.6⟩
def MD(rs:D3)(ns:List Nm)(N k:Nat)(torn:Int):BG:=⟨λs=>rs.Q (ah s),λj=>rs.Q (az j),N,λu=>Aj (rs.2 u),λu=>An (rs.2 u),ns,rs.3,k,torn,rs.9,rs.4,rs.7,rs.6,rs.8⟩
def Gl(rs:D3)(j:Nat):List Pl:=Al (rs.6 j) (rs.Q (az j))
structure Inv(rs:D3)(ns:List Nm)(d:Dk)(chs:List Ch)(i p:Nat):Prop where
 log:LogI d chs
 q:QI rs.Q rs.2 rs.3 rs.4
 id:0<=rs.3/\rs.3<=3
 ord:Aw ns
 rt:∀x∈ns,Bf x=ac
 nlen:ns.length<=20
 dead:∀x∈ns,x.1≠AF
 pa:∀s,(AD chs).A s=Ap (rs.Q (ah s))
 pb:∀j,(AD chs).B j=Ap (rs.Q (az j))
 pn:(AD chs).3=ns
 pc:(AD chs).4=rs.5
 pm:(AD chs).5=rs.7
 pd:(AD chs).6=rs.6
 pr:(AD chs).7=rs.8
 bst:∀l x,x∈Ap (rs.Q l)->x.m.1%4=rs.3->x.m.1<4*rs.5
 dbt:∀j,∀z∈rs.6 j,∃x∈rs.Q (az j),x.m.1=z/\x.u<0
 dbn:∀j,(rs.6 j).Nodup/\(rs.6 j).length<=3
 la:∀l,(rs.Q l).length<=6*i
 tot:BA chs+JP (λu=>Aj (rs.2 u))<=6*i
 dl:∀u,(rs.2 u).length<=i
 cn:0<=rs.4/\rs.4<=i
 bn:0<=rs.5/\rs.5<=rs.4
 dz:∀u,5<=u->rs.2 u=[]
 mdb:∀j,0<=rs.7 j/\rs.7 j+((Gl rs j).length:Int)<=p
 arn:∀j,0<=rs.8 j
 tl:∀ks:List ByteArray,ks.Nodup->C9 rs.Q ks<=6*i
section
variable{rs:D3}{ns:List Nm}{d:Dk}{chs:List Ch}{i p:Nat}
theorem Inv.next(h:Inv rs ns d chs i p):Inv rs ns d chs (i+1) (p+1):={h with la:=λl=>by have:=h.la l;omega,tot:=by have:=h.19;omega,dl:=λu=>by have:=h.dl u;omega,cn:=by have:=h.cn;omega,mdb:=λj=>by have:=h.24 j;omega,tl:=λks hk=>by have:=h.tl ks hk;omega}
theorem Inv.next1(h:Inv rs ns d chs i p):Inv rs ns d chs (i+1) p:={h with la:=λl=>by have:=h.la l;omega,tot:=by have:=h.19;omega,dl:=λu=>by have:=h.dl u;omega,cn:=by have:=h.cn;omega,tl:=λks hk=>by have:=h.tl ks hk;omega}
theorem LogI.log{d:Dk}{chs:List Ch}(h:LogI d chs)(a:BA chs<=900):Log d chs:=⟨h.1,h.2,a,h.3,h.5.4,h.5.1⟩
theorem Rg{ns:List Nm}(h:∀x∈ns,x.1≠AF):Eg ns AF=E:=List.find?_eq_none.2 (λx hx=>by simpa using h x hx)
theorem Inv.ownDead(h:Inv rs ns d chs i p):Ek ns AF=aj:=by unfold Ek;rw[Rg h.7]
theorem Inv.downed(h:Inv rs ns d chs i p){c:Ch}(hc:c.ok)(a:chs.length<300)(torn:Int):Inv {rs with down:=ac} ns (Ze d chs.length c torn) chs i p:={h with log:=h.1.torn hc a torn}
theorem Inv.cut(h:Inv rs ns d chs i p)(n:Int)(a:n<=9223372036854775807):Inv rs ns (d.cut n) chs i p:={h with log:=h.1.cut n a}
theorem E2{A B:List Pl}(a:Fit A){ids:List Int}(h:∀x∈A,∃y∈B,y.m=x.m):(Al ids A).length<=(Al ids B).length:=Fo (Jf a ids).2 (λx hx=>by obtain⟨h1,h2⟩:=Bt.1 hx;obtain⟨y,b,e⟩:=h x h1;exact⟨y,Bt.2 ⟨b,by rw[e];exact h2⟩,by rw[e]⟩)
theorem VT{ns:List Nm}(s:ByteArray):(del ns s).length+(if(Eg ns s).isSome=ac then 1 else 0)=ns.length:=by
 induction ns with
 |nil=>rfl
 |cons y r ih=>
  unfold del Eg;by_cases e:y.1=s
  ·rw[if_pos e,List.find?_cons_of_pos (by simpa using e)];simp
  ·rw[if_neg e,List.find?_cons_of_neg (by simpa using e)];unfold Eg at ih;simp only[aV];omega
theorem WQ{ns:List Nm}{x:Nm}(c:Aw ns)(h:ns.length<=20)(hs:aC ns x=0):(GI ns x).length<=20:=by
 have e:=(TJ c x).length_eq;have a:=VT (ns:=ns) x.1;rw[ak,ao]at e;unfold aC at hs;by_cases b:Bf x=ac
 ·rw[if_pos b]at hs;cases hl:Eg ns x.1 with
  |none=>rw[hl]at hs a;simp at hs a;omega
  |some y=>rw[hl]at a;simp at a;omega
 ·rw[if_neg b]at hs;cases hs
theorem Lb{ns:List Nm}{x:Nm}(hs:aC ns x=0):Bf x=ac:=by
 unfold aC at hs;by_cases a:Bf x=ac
 ·exact a
 ·rw[if_neg a]at hs;cases hs
theorem Inv.name(h:Inv rs ns d chs i p){x:Nm}(hx:x.wf)(hs:aC ns x=0)(j:x.1≠AF)(k:chs.length<300)(f:¬(d.2=ac/\d.3=0)):Inv rs (Cd ns x) (Tg d chs.length ⟨0,x,0,[],[],[],[]⟩) (chs++[⟨0,x,0,[],[],[],[]⟩]) i p:=by
 have g:=Lb hs;have c:Cd ns x=GI ns x:=by unfold Cd;rw[if_pos hs]
 have a:AD (chs++[⟨0,x,0,[],[],[],[]⟩])={AD chs with ns:=Cd (AD chs).3 x}:=by rw[CO];rfl
 exact{h with
  log:=h.1.write (JG g) (aN ⟨rfl,rfl,rfl,rfl,hx⟩) k f
  ord:=by rw[c];exact KC h.4
  rt:=λy b=>by rw[c]at b;exact(mem_ins b).elim (λe=>by rw[e];exact g) (h.5 y)
  nlen:=by rw[c];exact WQ h.4 h.6 hs
  dead:=λy b=>by rw[c]at b;exact(mem_ins b).elim (λe=>by rw[e];exact j) (h.7 y)
  pa:=by rw[a];exact h.8
  pb:=by rw[a];exact h.9
  pn:=by rw[a];show Cd (AD chs).3 x=_;rw[h.pn]
  pc:=by rw[a];exact h.pc
  pm:=by rw[a];exact h.pm
  pd:=by rw[a];exact h.pd
  pr:=by rw[a];exact h.pr
  tot:=by rw[Cu];exact h.19}
theorem CX(did:Nat->List Dd)(u:Nat)(l:List Dd):(λv=>Aj (Af did u l v))=Af (λv=>Aj (did v)) u (Aj l):=by funext v;unfold Af;split<;>rfl
theorem Fv(did:Nat->List Dd)(u:Nat)(l:List Dd):(λv=>An (Af did u l v))=Af (λv=>An (did v)) u (An l):=by funext v;unfold Af;split<;>rfl
theorem Inv.put(h:Inv rs ns d chs i p){m:Mg}{u:Nat}(c:u<5)(hm:m.1=rs.4*4+rs.3)(g:right m=ac):Inv {rs with Q:=AU rs.Q (A9 rs.3 m) (rs.Q (A9 rs.3 m)++[⟨m,(u:Int),aj⟩]),cnt:=rs.4+1,did:=Af rs.2 u (rs.2 u++[⟨ac,m,A9 rs.3 m⟩])} ns d chs (i+1) (p+1):=by
 have a:∀l,Ap (AU rs.Q (A9 rs.3 m) (rs.Q (A9 rs.3 m)++[⟨m,(u:Int),aj⟩]) l)=Ap (rs.Q l):=λl=>by
  unfold AU;split
  ·rename_i e;rw[Kr,e]
  ·rfl
 have hold:∀l x,x∈rs.Q l->x∈AU rs.Q (A9 rs.3 m) (rs.Q (A9 rs.3 m)++[⟨m,(u:Int),aj⟩]) l:=λl x hx=>by
  unfold AU;split
  ·rename_i e;exact Y.2 (aN (e▸hx))
  ·exact hx
 have hs:=JQ (λv=>Aj (rs.2 v)) c (Aj (rs.2 u++[⟨ac,m,A9 rs.3 m⟩]));rw[Fd _ rfl,ak,ao]at hs;exact{h.next with
  q:=h.q.putM h.3 c hm g
  pa:=λs=>by rw[h.8];exact(a _).symm
  pb:=λs=>by rw[h.9];exact(a _).symm
  bst:=λl x hx=>by
   have b:x∈Ap (rs.Q l):=by rw[<-a];exact hx
   exact h.15 l x b
  dbt:=λj z k=>by obtain⟨x,h1,h2⟩:=h.16 j z k;exact⟨x,hold _ x h1,h2⟩
  la:=λl=>by
   have:=h.la l;show(AU rs.Q (A9 rs.3 m) (rs.Q (A9 rs.3 m)++[⟨m,(u:Int),aj⟩]) l).length<=_;unfold AU;split
   ·rename_i e;rw[ak,ao,<-e];omega
   ·omega
  tot:=by have:=h.19;show BA chs+JP (λv=>Aj (Af rs.2 u (rs.2 u++[⟨ac,m,A9 rs.3 m⟩]) v))<=_;rw[CX,Fd _ rfl];omega
  dl:=λv=>by
   have:=h.dl v;have:=h.dl u;show(Af rs.2 u (rs.2 u++[⟨ac,m,A9 rs.3 m⟩]) v).length<=_;unfold Af;split
   ·rw[ak,ao];omega
   ·omega
  cn:=by have:=h.cn;show 0<=rs.4+1/\rs.4+1<=((i+1:Nat):Int);omega
  bn:=by have:=h.bn;show 0<=rs.5/\rs.5<=rs.4+1;omega
  tl:=λks hk=>by
   have h1:=h.tl ks hk;have h2:C9 (AU rs.Q (A9 rs.3 m) (rs.Q (A9 rs.3 m)++[⟨m,(u:Int),aj⟩])) ks<=C9 rs.Q ks+1:=by
    refine JR (t:=m.4) hk (λs hs=>?_) ?_
    ·refine BB _ _ (λe=>?_);unfold A9 at e;split at e
     ·exact hs (Sum.inl.inj e)
     ·cases e
    ·unfold AU;split
     ·rename_i e;rw[ak,ao,<-e];omega
     ·omega
   show C9 (AU rs.Q (A9 rs.3 m) (rs.Q (A9 rs.3 m)++[⟨m,(u:Int),aj⟩])) ks<=_;omega
  mdb:=λj=>by
   have h1:=h.24 j;refine⟨h1.1,?_⟩;show rs.7 j+((Al (rs.6 j) (AU rs.Q (A9 rs.3 m) (rs.Q (A9 rs.3 m)++[⟨m,(u:Int),aj⟩]) (az j))).length:Int)<=((p+1:Nat):Int);unfold AU;split
   ·rename_i e;have h2:((Gl rs j).length:Int)=((Al (rs.6 j) (rs.Q (az j))).length:Int):=rfl;rw[<-e,Ue,ak];have f:=(DG (rs.6 j) [(⟨m,(u:Int),aj⟩:Pl)]).1;rw[ao]at f;omega
   ·have h2:((Gl rs j).length:Int)=((Al (rs.6 j) (rs.Q (az j))).length:Int):=rfl;omega
  dz:=λv hv=>by show Af rs.2 u _ v=[];rw[Ab _ _ O];exact h.dz v hv}
theorem Inv.get(h:Inv rs ns d chs i p){s:ByteArray}{x:Pl}{u:Nat}(n:u<5)(hx:(AA (rs.Q (ah s))).find? Pl.free=J x):Inv {rs with Q:=AU rs.Q (ah s) (hold x.m.1 u (rs.Q (ah s))),did:=Af rs.2 u (rs.2 u++[⟨aj,x.m,ah s⟩])} ns d chs (i+1) (p+1):=by
 have hm:x∈rs.Q (ah s):=(BS (h.q.1 _)).mem_iff.1 (List.mem_of_find?_eq_some hx);have g:x.free=ac:=List.find?_some hx;have b:x.u<0:=by simpa[Pl.free]using g
 have a:∀l,Ap (AU rs.Q (ah s) (hold x.m.1 u (rs.Q (ah s))) l)=Ap (rs.Q l):=λl=>by
  unfold AU;split
  ·rename_i e;rw[IZ,e];intro y c k;obtain rfl:=Z4 (h.q.1 _).2 c hm k;simp[Pl.kept,b]
  ·rfl
 exact{h.next with
  q:=h.q.getM n hm g
  pa:=λs=>by rw[h.8];exact(a _).symm
  pb:=λs=>by rw[h.9];exact(a _).symm
  bst:=λl y c=>by
   have f:y∈Ap (rs.Q l):=by rw[<-a];exact c
   exact h.15 l y f
  dbt:=λj z o=>by obtain⟨y,h1,h2⟩:=h.16 j z o;refine⟨y,?_,h2⟩;show y∈AU rs.Q (ah s) (hold x.m.1 u (rs.Q (ah s))) (az j);rw[BB _ _ oS];exact h1
  la:=λl=>by
   have:=h.la l;show(AU rs.Q (ah s) (hold x.m.1 u (rs.Q (ah s))) l).length<=_;unfold AU;split
   ·rename_i e;rw[show(hold x.m.1 u (rs.Q (ah s))).length=(rs.Q (ah s)).length by simp[hold],<-e];omega
   ·omega
  tl:=λks hk=>by
   have h1:=h.tl ks hk;have h2:C9 (AU rs.Q (ah s) (hold x.m.1 u (rs.Q (ah s)))) ks<=C9 rs.Q ks:=GD (λt=>by
    unfold AU;split
    ·rename_i e;rw[show(hold x.m.1 u (rs.Q (ah s))).length=(rs.Q (ah s)).length by simp[hold],<-e];exact au _
    ·exact au _);show C9 (AU rs.Q (ah s) (hold x.m.1 u (rs.Q (ah s)))) ks<=_;omega
  tot:=by have:=h.19;show BA chs+JP (λv=>Aj (Af rs.2 u (rs.2 u++[⟨aj,x.m,ah s⟩]) v))<=_;rw[CX,Fq _ rfl];have e:Af (λv=>Aj (rs.2 v)) u (Aj (rs.2 u))=λv=>Aj (rs.2 v):=Fw _ u;rw[e];omega
  dl:=λv=>by
   have:=h.dl v;have:=h.dl u;show(Af rs.2 u (rs.2 u++[⟨aj,x.m,ah s⟩]) v).length<=_;unfold Af;split
   ·rw[ak,ao];omega
   ·omega
  dz:=λv hv=>by show Af rs.2 u _ v=[];rw[Ab _ _ O];exact h.dz v hv}
theorem Inv.back(h:Inv rs ns d chs i p){u:Nat}(f:u<5):Inv (FE rs u) ns d chs i p:=by
 have a:∀l,Ap (SK (AN u ac) rs.Q l)=Ap (rs.Q l):=λl=>Bi u _;have hs:=JQ (λv=>Aj (rs.2 v)) f (Aj []);exact{h with
  q:=h.q.back u
  pa:=λs=>by rw[h.8];exact(a _).symm
  pb:=λs=>by rw[h.9];exact(a _).symm
  bst:=λl x hx=>by
   have b:x∈Ap (rs.Q l):=by rw[<-a];exact hx
   exact h.15 l x b
  dbt:=λj z m=>by obtain⟨x,h1,h2,c⟩:=h.16 j z m;exact⟨x,Br.2 ⟨x,h1,λe=>by have:=e.1;omega,(CU O).symm⟩,h2,c⟩
  la:=λl=>by have:=h.la l;have:=Gf u ac (rs.Q l);show(AN u ac (rs.Q l)).length<=_;omega
  tl:=λks hk=>by have h1:=h.tl ks hk;have h2:C9 (SK (AN u ac) rs.Q) ks<=C9 rs.Q ks:=GD (λt=>Gf u ac (rs.Q (ah t)));show C9 (SK (AN u ac) rs.Q) ks<=_;omega
  mdb:=λj=>by have h1:=h.24 j;have g:=E2 (ids:=rs.6 j) (Je (h.q.1 (az j)) u ac) (B:=rs.Q (az j)) (λx hx=>by obtain⟨y,k,-,rfl⟩:=Br.1 hx;exact⟨y,k,(BY _ _).symm⟩);refine⟨h1.1,?_⟩;have h2:((Gl rs j).length:Int)=((Al (rs.6 j) (rs.Q (az j))).length:Int):=rfl;show rs.7 j+((Al (rs.6 j) (AN u ac (rs.Q (az j)))).length:Int)<=(p:Int);omega
  tot:=by have:=h.19;show BA chs+JP (λv=>Aj (Af rs.2 u [] v))<=_;rw[CX];have e:(Aj ([]:List Dd)).length=0:=rfl;omega
  dl:=λv=>by
   have:=h.dl v;show(Af rs.2 u [] v).length<=_;unfold Af;split
   ·exact bc _
   ·omega
  dz:=λv hv=>by show Af rs.2 u _ v=[];rw[Ab _ _ O];exact h.dz v hv}
theorem XV(N k:Nat)(torn:Int)(u:Nat):MD (FE rs u) ns N k torn={MD rs ns N k torn with A:=λs=>AN u ac (rs.Q (ah s)),B:=λj=>AN u ac (rs.Q (az j)),pu:=Af (λv=>Aj (rs.2 v)) u [],tk:=Af (λv=>An (rs.2 v)) u []}:=by unfold MD FE;simp only;rw[CX,Fv];rfl
end
theorem Nx(ids:List Int):∀(A:List Pl),Al ids A=A.filter λx=>aU (x.m.1∉ids):=by
 induction ids with
 |nil=>intro A;exact(List.filter_eq_self.2 (λx _=>oS)).symm
 |cons i r ih=>intro A;show Al r (ER i A)=_;rw[ih];unfold ER;rw[bC];congr 1;funext x;by_cases h1:x.m.1=i<;>by_cases h2:x.m.1∈r<;>simp[h1,h2]
section
variable{rs:D3}{ns:List Nm}{d:Dk}{chs:List Ch}{i p:Nat}
theorem MU{c b:Int}(ms:List Mg)(hc:c<=b)(h:∀m∈ms,m.1/4+1<=b):AB c ms<=b:=by
 induction ms generalizing c with
 |nil=>exact hc
 |cons m r ih=>have e:AB c (m::r)=AB (max c (m.1/4+1)) r:=rfl;rw[e];exact ih (by have:=h m (am ..);omega) (λq hq=>h q (ag _ hq))
theorem Eu(ds:List Dd):∀(b:Int),b<=Bq b ds/\(∀m∈Aj ds,m.1/4+1<=Bq b ds)/\∀c,b<=c->(∀m∈Aj ds,m.1/4+1<=c)->Bq b ds<=c:=by
 induction ds with
 |nil=>intro b;exact⟨Int.le_refl _,λm hm=>by simp[Aj]at hm,λc hc _=>hc⟩
 |cons d r ih=>
  intro b;have e:Bq b (d::r)=Bq (if d.1=ac then max b (d.m.1/4+1)else b) r:=rfl;rw[e];by_cases a:d.1=ac
  ·rw[if_pos a];have f:Aj (d::r)=d.m::Aj r:=by simp[Aj,a]
   obtain⟨h1,h2,g⟩:=ih (max b (d.m.1/4+1));rw[f];refine⟨O,λm hm=>?_,λc hc hm=>g c (by have:=hm d.m (am ..);omega) (λm hq=>hm m (ag _ hq))⟩;rcases aP.1 hm with rfl|hm
   ·omega
   ·exact h2 m hm
  ·rw[if_neg a];have f:Aj (d::r)=Aj r:=by simp[Aj,a]
   rw[f];exact ih b
theorem VC(b id:Int)(ds:List Dd):AB (AB b (Cx id (Aj ds))) (Dz id (Aj ds))=Bq b ds:=by
 obtain⟨h1,h2,c⟩:=Eu ds b;have f:∀m∈Cx id (Aj ds),m∈Aj ds:=λm hm=>(G.1 hm).1;have g:∀m∈Dz id (Aj ds),m∈Aj ds:=λm hm=>(G.1 hm).1;have g1:=MS (Cx id (Aj ds)) b;have a:=MS (Dz id (Aj ds)) (AB b (Cx id (Aj ds)));have h:AB (AB b (Cx id (Aj ds))) (Dz id (Aj ds))<=Bq b ds:=MU _ (MU _ h1 (λm hm=>h2 m (f m hm))) (λm hm=>h2 m (g m hm));have a2:Bq b ds<=AB (AB b (Cx id (Aj ds))) (Dz id (Aj ds)):=c _ O (λm hm=>by
  by_cases e:m.5=id
  ·have:=g1.2 m (G.2 ⟨hm,by simpa using e⟩);omega
  ·exact a.2 m (G.2 ⟨hm,by simpa using e⟩));omega
theorem Inv.chO_ok(h:Inv rs ns d chs i p)(j:i<=150){u:Nat}(c:u<5):(Gb rs.3 (An (rs.2 u)) (Aj (rs.2 u))).ok:=by
 have k:=h.dl u;have l:=CW (rs.2 u);refine bO (λz f=>?_) O (λm hm=>?_) O
 ·obtain⟨e,b,a,rfl⟩:=CJ.1 f;obtain⟨s,n,g⟩:=h.q.7 u e c b a;exact h.q.ids g
 ·obtain⟨e,b,a,rfl⟩:=AZ.1 hm;exact h.q.right_put c b a
theorem Inv.over(h:Inv rs ns d chs i p)(hi:i<=150){u:Nat}(c:u<5)(hl:chs.length<300)(H:¬(d.2=ac/\d.3=0)):Inv {FE rs u with Q:=BZ rs.Q u (rs.2 u),best:=Bq rs.5 (rs.2 u)} ns (Tg d chs.length (Gb rs.3 (An (rs.2 u)) (Aj (rs.2 u)))) (chs++[Gb rs.3 (An (rs.2 u)) (Aj (rs.2 u))]) i p:=by
 obtain⟨e1,e2,P,R⟩:=h.q.over_prog c;obtain⟨hq,b⟩:=h.q.overM c;have a:AD (chs++[Gb rs.3 (An (rs.2 u)) (Aj (rs.2 u))])={AD chs with A:=As (λs=>Al (An (rs.2 u)) ((AD chs).A s)) (Cx rs.3 (Aj (rs.2 u))),B:=AM (AD chs).B (Dz rs.3 (Aj (rs.2 u))),cnt:=AB (AB (AD chs).4 (Cx rs.3 (Aj (rs.2 u)))) (Dz rs.3 (Aj (rs.2 u)))}:=by rw[CO];rfl
 have hs:=JQ (λv=>Aj (rs.2 v)) c (Aj []);obtain⟨b1,M,N⟩:=Eu (rs.2 u) rs.5;have L:∀m∈Aj (rs.2 u),m.1/4+1<=rs.4:=λm hm=>by obtain⟨e,X,D,rfl⟩:=AZ.1 hm;obtain⟨q1,q2,q3⟩:=h.q.6 u e c X D;have:=h.q.3 _ _ q2 q3;have this:e.m.1<4*rs.4:=this;omega
 have f:∀j,((Gl {FE rs u with Q:=BZ rs.Q u (rs.2 u),best:=Bq rs.5 (rs.2 u)} j).length)<=(Gl rs j).length:=λj=>E2 (ids:=rs.6 j) (hq.1 (az j)) (λx hx=>b (az j) x hx);refine⟨h.1.write (h.chO_ok hi c) (aK (aK (aN ⟨rfl,rfl⟩))) hl H,hq,h.3,h.4,h.5,h.6,h.7,λs=>?_,λj=>?_,by rw[a];exact h.pn,?_,by rw[a];exact h.pm,by rw[a];exact h.pd,by rw[a];exact h.pr,λl x hx e=>?_,λj z k=>?_,h.17,λl=>?_,?_,λv=>?_,h.cn,?_,λv hv=>(Ab _ _ O).trans (h.dz v hv),λj=>⟨(h.24 j).1,by have h1:=(h.24 j).2;have h2:=f j;show rs.7 j+_<=(p:Int);omega⟩,h.25,λks hk=>bu (GD (λt=>Fo (hq.1 (ah t)).2 (λx hx=>by obtain⟨z,k,e⟩:=b (ah t) x hx;exact⟨z,k,by rw[e]⟩))) (h.tl ks hk)⟩
 ·rw[a];show As (λs=>Al (An (rs.2 u)) ((AD chs).A s)) (Cx rs.3 (Aj (rs.2 u))) s=Ap (BZ rs.Q u (rs.2 u) (ah s));rw[<-P s];congr 1;funext t;rw[h.8]
 ·rw[a];show AM (AD chs).B (Dz rs.3 (Aj (rs.2 u))) j=Ap (BZ rs.Q u (rs.2 u) (az j));rw[<-R j];congr 1;funext t;rw[h.9]
 ·rw[a];show AB (AB (AD chs).4 (Cx rs.3 (Aj (rs.2 u)))) (Dz rs.3 (Aj (rs.2 u)))=Bq rs.5 (rs.2 u);rw[h.pc,VC]
 ·show x.m.1<4*Bq rs.5 (rs.2 u);have hx:x∈Ap (BZ rs.Q u (rs.2 u) l):=hx;obtain⟨y,hy,hk,rfl⟩:=A7.1 hx;rcases Y.1 hy with h1|h1
  ·obtain⟨h1,-⟩:=Bt.1 h1;have U:(⟨y.m,-1,aj⟩:Pl)∈Ap (rs.Q l):=by rw[<-Bi u];exact A7.2 ⟨y,h1,hk,rfl⟩
   have:=h.15 l _ U e;have this:y.m.1<4*rs.5:=this;show y.m.1<_;omega
  ·obtain⟨n,o,w,-,rfl⟩:=CI.1 h1;have:=M n.m (AZ.2 ⟨n,o,w,rfl⟩);show n.m.1<_;omega
 ·obtain⟨x,h1,h2,S⟩:=h.16 j z k;refine⟨x,Y.2 (aN ?_),h2,S⟩;rw[Hy h.q c];exact Br.2 ⟨x,h1,λe=>by have:=e.1;omega,(CU O).symm⟩
 ·have:=h.la l;have g:=Fo (hq.1 l).2 (λx hx=>by obtain⟨z,k,e⟩:=b l x hx;exact⟨z,k,by rw[e]⟩);exact bu g this
 ·have ht:=h.19;rw[Cu];show BA chs+((Cx rs.3 (Aj (rs.2 u))).length+0+(Dz rs.3 (Aj (rs.2 u))).length)+JP (λv=>Aj (Af rs.2 u [] v))<=6*i;rw[CX];have ec:(Cx rs.3 (Aj (rs.2 u))).length+(Dz rs.3 (Aj (rs.2 u))).length=(Aj (rs.2 u)).length:=by
   unfold Cx Dz;induction Aj (rs.2 u)with
   |nil=>rfl
   |cons m r ih=>
    by_cases e:m.5=rs.3
    ·rw[ae (by simpa using e),aa (by simpa using e)];simp only[aV];omega
    ·rw[aa (by simpa using e),ae (by simpa using e)];simp only[aV];omega
  have e:(Aj ([]:List Dd)).length=0:=rfl;omega
 ·have:=h.dl v;show(Af rs.2 u [] v).length<=_;unfold Af;split
  ·exact bc _
  ·omega
 ·have V:=h.bn;have W:=h.cn;have:=N rs.4 O (λm hm=>L m hm);show 0<=Bq rs.5 (rs.2 u)/\Bq rs.5 (rs.2 u)<=rs.4;omega
theorem Inv.over_x(h:Inv rs ns d chs i p){u:Nat}(c:u<5)(N k:Nat)(torn:Int):({MD rs ns N k torn with A:=As (λs=>Al (An (rs.2 u)) (AN u ac (rs.Q (ah s)))) (Cx rs.3 (Aj (rs.2 u))),B:=AM (λj=>AN u ac (rs.Q (az j))) (Dz rs.3 (Aj (rs.2 u))),N:=N+(Cx rs.3 (Aj (rs.2 u))).length,pu:=Af (λv=>Aj (rs.2 v)) u [],tk:=Af (λv=>An (rs.2 v)) u [],k:=k+1,cnt:=AB (AB rs.4 (Cx rs.3 (Aj (rs.2 u)))) (Dz rs.3 (Aj (rs.2 u)))}:BG)=MD {FE rs u with Q:=BZ rs.Q u (rs.2 u),best:=Bq rs.5 (rs.2 u)} ns (N+(Cx rs.3 (Aj (rs.2 u))).length) (k+1) torn:=by
 obtain⟨f,g,-,-⟩:=h.q.over_prog c;have a:∀m∈Aj (rs.2 u),m.1/4+1<=rs.4:=λm hm=>by obtain⟨e,n,b,rfl⟩:=AZ.1 hm;obtain⟨t,o,r⟩:=h.q.6 u e c n b;have:=h.q.3 _ _ o r;have this:e.m.1<4*rs.4:=this;omega
 have l:AB (AB rs.4 (Cx rs.3 (Aj (rs.2 u)))) (Dz rs.3 (Aj (rs.2 u)))=rs.4:=by rw[I5 (Cx _ _) _ (λm hm=>a m (G.1 hm).1),I5 (Dz _ _) _ (λm hm=>a m (G.1 hm).1)]
 unfold MD FE;simp only;rw[CX,Fv,l];congr 1
 ·funext s;exact f s
 ·funext j;exact g j
theorem PR{A:List Pl}{m:Mg}(hm:m∈Ar Pl.free (AA A))(a:Fit A):∃x∈A,x.m=m/\x.u<0:=by unfold Ar at hm;obtain⟨x,hx,rfl⟩:=aM.1 hm;obtain⟨h1,h2⟩:=G.1 hx;exact⟨x,(BS a).mem_iff.1 h1,rfl,by simpa[Pl.free]using h2⟩
theorem NW{A:List Pl}(a:Fit A)(p:Pl->Bool):((Ar p (AA A)).map Mg.id).Nodup:=by unfold Ar;rw[ch];exact List.pairwise_map.2 (((Fu a).sublist aS).imp (λh=>h))
def Bb(rs:D3)(j:Nat):List Int:=((Ar Pl.free (AA (rs.Q (az j)))).take 3).map Mg.id
theorem Inv.nextIds(h:Inv rs ns d chs i p)(j:Nat):(Bb rs j).Nodup/\(Bb rs j).length<=3/\(∀z∈Bb rs j,∃x∈rs.Q (az j),x.m.1=z/\x.u<0)/\∀z∈Bb rs j,0<=z/\z<=1099511627776:=by
 have hm:∀z∈Bb rs j,∃x∈rs.Q (az j),x.m.1=z/\x.u<0:=λz a=>by obtain⟨m,hm,rfl⟩:=aM.1 a;obtain⟨x,h1,rfl,b⟩:=PR (bP hm) (h.q.1 _);exact⟨x,h1,rfl,b⟩
 refine⟨?_,by unfold Bb;rw[aY,bL];omega,hm,λz a=>?_⟩
 ·unfold Bb;exact(NW (h.q.1 _) Pl.free).sublist ((bZ _ _).map _)
 ·obtain⟨x,h1,rfl,-⟩:=hm z a;exact h.q.ids h1
theorem Inv.made(h:Inv rs ns d chs i p){j:Nat}(hj:j<4)(h0:rs.6 j=[])(c:Bb rs j≠[])(o:chs.length<300)(f:¬(d.2=ac/\d.3=0)):Inv {rs with db:=Af rs.6 j (Bb rs j),md:=Af rs.7 j (rs.7 j+1)} ns (Tg d chs.length (Be j (Bb rs j))) (chs++[Be j (Bb rs j)]) i p:=by
 obtain⟨t,u,k,n4⟩:=h.nextIds j;have n:((j:Int)).toNat=j:=aG j;have b:AD (chs++[Be j (Bb rs j)])={AD chs with md:=Af (AD chs).5 j ((AD chs).5 j+1),db:=Af (AD chs).6 j (Bb rs j)}:=by rw[CO];unfold Km Be;simp only[n];rfl
 refine⟨h.1.write (GN hj n4 O) (aK (aK (aK (aN ⟨rfl,rfl,rfl,rfl⟩)))) o f,h.q,h.3,h.4,h.5,h.6,h.7,by rw[b];exact h.8,by rw[b];exact h.9,by rw[b];exact h.pn,by rw[b];exact h.pc,by rw[b];show Af (AD chs).5 j _=_;rw[h.pm],by rw[b];show Af (AD chs).6 j _=_;rw[h.pd],by rw[b];exact h.pr,h.15,λq z a=>?_,λq=>?_,h.la,by rw[Cu];exact h.19,h.dl,h.cn,h.bn,h.dz,λq=>?_,h.25,h.tl⟩
 ·have a:z∈Af rs.6 j (Bb rs j) q:=a;by_cases e:q=j
  ·subst e;rw[Ae]at a;exact k z a
  ·rw[Ab _ _ e]at a;exact h.16 q z a
 ·show(Af rs.6 j (Bb rs j) q).Nodup/\(Af rs.6 j (Bb rs j) q).length<=3;by_cases e:q=j
  ·subst e;rw[Ae];exact⟨t,u⟩
  ·rw[Ab _ _ e];exact h.17 q
 ·have hm:=h.24 q;by_cases e:q=j
  ·subst e;show 0<=Af rs.7 q (rs.7 q+1) q/\Af rs.7 q (rs.7 q+1) q+((Al (Af rs.6 q (Bb rs q) q) (rs.Q (az q))).length:Int)<=p;rw[Ae,Ae];have r:(Gl rs q).length=(rs.Q (az q)).length:=by unfold Gl;rw[h0];rfl
   obtain⟨z,a⟩:=List.exists_mem_of_ne_nil _ c;obtain⟨x,hx,l,-⟩:=k z a;have s:(Al (Bb rs q) (rs.Q (az q))).length<(rs.Q (az q)).length:=by
    rw[Nx];rcases Nat.lt_or_ge ((rs.Q (az q)).filter λx=>aU (x.m.1∉Bb rs q)).length (rs.Q (az q)).length with g|g
    ·exact g
    ·have:=bT.1 ((aS).eq_of_length_le g) x hx;simp[l,a]at this
   omega
  ·show 0<=Af rs.7 j (rs.7 j+1) q/\Af rs.7 j (rs.7 j+1) q+((Al (Af rs.6 j (Bb rs j) q) (rs.Q (az q))).length:Int)<=p;rw[Ab _ _ e,Ab _ _ e];exact hm
theorem Inv.came(h:Inv rs ns d chs i p){j:Nat}(hj:j<4)(m:chs.length<300)(f:¬(d.2=ac/\d.3=0)):Inv {rs with Q:=AU rs.Q (az j) (Al (rs.6 j) (rs.Q (az j))),db:=Af rs.6 j []} ns (Tg d chs.length (Bk j)) (chs++[Bk j]) i p:=by
 have k:((j:Int)).toNat=j:=aG j;have a:AD (chs++[Bk j])={AD chs with B:=Af (AD chs).B j (Al ((AD chs).6 j) ((AD chs).B j)),db:=Af (AD chs).6 j []}:=by rw[CO];unfold Km Bk;simp only[k];rfl
 have c:∀l x,x∈AU rs.Q (az j) (Al (rs.6 j) (rs.Q (az j))) l->x∈rs.Q l:=λl x hx=>by
  unfold AU at hx;split at hx
  ·rename_i e;rw[e];exact(Bt.1 hx).1
  ·exact hx
 refine⟨h.1.write (GM hj) (aK (aK (aK (aK (aN ⟨rfl,rfl,rfl,rfl⟩))))) m f,h.q.gone (h.16 j),h.3,h.4,h.5,h.6,h.7,by rw[a];exact h.8,λq=>?_,by rw[a];exact h.pn,by rw[a];exact h.pc,by rw[a];exact h.pm,by rw[a];show Af (AD chs).6 j _=_;rw[h.pd],by rw[a];exact h.pr,λl x hx=>?_,λq z b=>?_,λq=>?_,λl=>?_,by rw[Cu];exact h.19,h.dl,h.cn,h.bn,h.dz,λq=>?_,h.25,λks hk=>bu (GD (λt=>by show(AU rs.Q (az j) (Al (rs.6 j) (rs.Q (az j))) (ah t)).length<=_;rw[BB _ _ oS];exact au _)) (h.tl ks hk)⟩
 ·rw[a];show Af (AD chs).B j (Al ((AD chs).6 j) ((AD chs).B j)) q=Ap (AU rs.Q (az j) (Al (rs.6 j) (rs.Q (az j))) (az q));by_cases e:q=j
  ·subst e;rw[Ae,Dx,Bz,h.9,h.pd]
  ·rw[Ab _ _ e,BB _ _ (λq=>e (Sum.inr.inj q)),h.9]
 ·have hx:x∈Ap (AU rs.Q (az j) (Al (rs.6 j) (rs.Q (az j))) l):=hx;obtain⟨y,n,hk,rfl⟩:=A7.1 hx;exact h.15 l _ (A7.2 ⟨y,c l y n,hk,rfl⟩)
 ·have b:z∈Af rs.6 j [] q:=b;by_cases e:q=j
  ·subst e;rw[Ae]at b;cases b
  ·rw[Ab _ _ e]at b;obtain⟨x,h1,h2⟩:=h.16 q z b;refine⟨x,?_,h2⟩;show x∈AU rs.Q (az j) _ (az q);rw[BB _ _ (λq=>e (Sum.inr.inj q))];exact h1
 ·show(Af rs.6 j [] q).Nodup/\(Af rs.6 j [] q).length<=3;by_cases e:q=j
  ·subst e;rw[Ae];exact⟨cg,bc _⟩
  ·rw[Ab _ _ e];exact h.17 q
 ·have:=h.la l;show(AU rs.Q (az j) (Al (rs.6 j) (rs.Q (az j))) l).length<=_;unfold AU;split
  ·rename_i e;have g:=(DG (rs.6 j) (rs.Q (az j))).1;rw[<-e]at g⊢;omega
  ·exact this
 ·have hm:=h.24 q;show 0<=rs.7 q/\rs.7 q+((Al (Af rs.6 j [] q) (AU rs.Q (az j) (Al (rs.6 j) (rs.Q (az j))) (az q))).length:Int)<=p;by_cases e:q=j
  ·subst e;rw[Ae,Dx];exact hm
  ·rw[Ab _ _ e,BB _ _ (λq=>e (Sum.inr.inj q))];exact hm
theorem Inv.twice(h:Inv rs ns d chs i p)(l:List Mg):Zx (λs=>rs.Q (ah s)) l↔Sv rs.Q l:=by
 have e:∀z,(∃s,BV (AA (rs.Q (ah s))) z=ac)↔UD rs.Q z:=λz=>by
  unfold UD BV;constructor
  ·rintro⟨s,hs⟩;obtain⟨x,hx,e⟩:=ce.1 hs;exact⟨s,x,(BS (h.q.1 _)).mem_iff.1 hx,by simpa using e⟩
  ·rintro⟨s,x,hx,e⟩;exact⟨s,ce.2 ⟨x,(BS (h.q.1 _)).mem_iff.2 hx,by simpa using e⟩⟩
 unfold Zx Sv;simp only[e]
theorem Inv.new(h:Inv rs ns d chs i p){l:List Mg}(f:∀x∈l,In rs.3 x=ac)(n:¬Sv rs.Q l):New rs.Q rs.3 (Az ns (λs=>rs.Q (ah s)) l).q (Az ns (λs=>rs.Q (ah s)) l).d/\(l.Pairwise λa b=>a.1≠b.1):=by
 have j:l.Pairwise λa b=>a.1≠b.1:=by rw[List.pairwise_iff_getElem];intro a b A u t e;refine n ⟨b,l[b],aF u,aK ⟨l[a],?_,e⟩⟩;exact List.mem_take_iff_getElem.2 ⟨a,O,rfl⟩
 obtain⟨c,o⟩:=Uq ns (λs=>rs.Q (ah s)) l l.length (au _);have r:=(Ur ns (λs=>rs.Q (ah s)) l l.length (au _)).1;rw[bv (au _)]at c o r;obtain⟨w,y,z⟩:=o j;have g:∀m∈l,right m=ac/\m.1%4≠rs.3:=λm hm=>by have:=f m hm;simp only[In,bb,bH,decide_eq_true_eq,decide_eq_false_iff_not]at this;exact⟨this.1.1,this.2⟩
 have v:∀m∈l,∀(s:ByteArray) x,x∈rs.Q (ah s)->x.m.1≠m.1:=λm hm s x hx e=>by obtain⟨k,hk,rfl⟩:=List.mem_iff_getElem.1 hm;exact n ⟨k,_,aF hk,aN ⟨s,x,hx,e⟩⟩
 have nd:∀m∈(Az ns (λs=>rs.Q (ah s)) l).q,m.4≠AF:=λm hm e=>by have:=r m hm;rw[e,h.ownDead]at this;exact Bool.noConfusion this
 exact⟨⟨λm hm=>(g m (c m (aN hm))).1,λm hm=>(g m (c m (aK hm))).1,w,y,z,nd,λm hm=>v m (c m hm),λm hm=>(g m (c m hm)).2⟩,j⟩
theorem Inv.arr(h:Inv rs ns d chs i p){j:Nat}(hj:j<4){l:List Mg}(n:∀x∈l,In rs.3 x=ac)(H:¬Sv rs.Q l)(L:l.length<=6)(D:chs.length<300)(o:¬(d.2=ac/\d.3=0)){q ds:List Mg}(B:(Az ns (λs=>rs.Q (ah s)) l).q=q)(u:(Az ns (λs=>rs.Q (ah s)) l).d=ds):Inv {rs with ar:=Af rs.8 j (rs.8 j+1),Q:=arrQ rs.Q q ds} ns (Tg d chs.length (BH j q ds)) (chs++[BH j q ds]) (i+1) p:=by
 obtain⟨c,-⟩:=h.new n H;obtain⟨g,-⟩:=El ns (λs=>rs.Q (ah s)) l;rw[B,u]at c g;have w:((j:Int)).toNat=j:=aG j;have a:AD (chs++[BH j q ds])={AD chs with A:=AL (As (AD chs).A q) ds,ar:=Af (AD chs).7 j ((AD chs).7 j+1)}:=by rw[CO];unfold Km BH;simp only[w];rfl
 have k:∀l,(arrQ rs.Q q ds l).length<=(rs.Q l).length+6:=λx=>by
  cases x with
  |inr j=>exact Nat.le_add_right _ _
  |inl s=>
   show(rs.Q (ah s)++FC s q++(if s=AF then ds.map fr else [])).length<=_;have h1:(FC s q).length<=q.length:=by unfold FC;rw[aY];exact aW _ _
   have h2:(if s=AF then ds.map fr else []).length<=ds.length:=by
    split
    ·rw[aY];exact au _
    ·exact bc _
   rw[ak,ak];omega
 have b:=h.next1;refine⟨h.1.write (Ga hj c.1 c.2 ⟨O,O⟩) (aK (aK (aK (aK (aK ⟨rfl,rfl⟩))))) D o,h.q.arrM c,h.3,h.4,h.5,h.6,h.7,λs=>?_,by rw[a];exact h.9,by rw[a];exact h.pn,by rw[a];exact h.pc,by rw[a];exact h.pm,by rw[a];exact h.pd,by rw[a];show Af (AD chs).7 j _=_;rw[h.pr],λx y f e=>?_,h.16,h.17,λx=>?_,?_,b.dl,b.cn,b.bn,h.dz,h.24,λq=>?_,λks hk=>by have h1:=h.tl ks hk;have h2:=UQ rs.Q ds hk q;show C9 (arrQ rs.Q q ds) ks<=_;omega⟩
 ·rw[a];show AL (As (AD chs).A q) ds s=Ap (arrQ rs.Q q ds (ah s));rw[IX,c.prog,h.8];intro t x hx;rw[h.8]at hx;obtain⟨y,f,-,rfl⟩:=A7.1 hx;exact⟨y,f,rfl⟩
 ·cases x with
  |inr j=>exact h.15 _ y f e
  |inl s=>
   have f:y∈Ap (arrQ rs.Q q ds (ah s)):=f;obtain⟨z,r,hk,rfl⟩:=A7.1 f;rcases mem_arrQ r with r|⟨m,rfl,hm⟩
   ·exact h.15 _ _ (A7.2 ⟨z,r,hk,rfl⟩) e
   ·exact absurd e (c.8 m (hm.imp (λq=>q.1) (λq=>q.1)))
 ·have:=h.la x;have:=k x;show(arrQ rs.Q q ds x).length<=_;omega
 ·have:=h.19;rw[Cu];show BA chs+(q.length+ds.length+0)+JP (λv=>Aj (rs.2 v))<=6*(i+1);omega
 ·have h1:=h.25 q;have h2:=h.25 j;show 0<=Af rs.8 j (rs.8 j+1) q;unfold Af;split<;>omega
theorem Inv.arr_x(h:Inv rs ns d chs i p){j:Nat}{l:List Mg}(a:∀x∈l,In rs.3 x=ac)(f:¬Sv rs.Q l){q ds:List Mg}(e:(Az ns (λs=>rs.Q (ah s)) l).q=q)(c:(Az ns (λs=>rs.Q (ah s)) l).d=ds)(N k:Nat)(torn:Int):IV (MD rs ns N k torn) j q ds=MD {rs with ar:=Af rs.8 j (rs.8 j+1),Q:=arrQ rs.Q q ds} ns (N+q.length+ds.length) (k+1) torn:=by obtain⟨b,-⟩:=h.new a f;rw[e,c]at b;unfold IV MD;simp only;congr 1;funext s;exact b.prog (A:=λs=>rs.Q (ah s)) (λs x hx=>⟨x,hx,rfl⟩) s
theorem Inv.anew(h:Inv rs ns d chs i p):Inv (PD rs) ns d chs i p/\Ck rs.3 chs=MD (PD rs) ns (BA chs) chs.length (-1):=by
 have a:∀l,Ap (Ap (rs.Q l))=Ap (rs.Q l):=λl=>IY _;refine⟨{h with
  q:=h.q.anew h.15
  pa:=λs=>by rw[h.8];exact(a _).symm
  pb:=λs=>by rw[h.9];exact(a _).symm
  bst:=λl x hx=>by have hx:x∈Ap (Ap (rs.Q l)):=hx;rw[a]at hx;exact h.15 l x hx
  dbt:=λj z f=>by obtain⟨x,h1,h2,b⟩:=h.16 j z f;exact⟨⟨x.m,-1,aj⟩,A7.2 ⟨x,h1,by simp[Pl.kept,b],rfl⟩,h2,by show(-1:Int)<0;omega⟩
  la:=λl=>by
   have:=h.la l;have e:(Ap (rs.Q l)).length<=(rs.Q l).length:=by unfold Ap;rw[aY];exact aW _ _
   show(Ap (rs.Q l)).length<=_;omega
  tot:=by have:=h.19;show BA chs+JP (λ_=>Aj [])<=_;have e:JP (λ_=>Aj [])=0:=rfl;omega
  dl:=λu=>bc _
  cn:=⟨h.bn.1,Int.le_trans h.bn.2 h.cn.2⟩
  bn:=⟨h.bn.1,bf _⟩
  dz:=λ_ _=>rfl
  tl:=λks hk=>bu (GD (λt=>by show(Ap (rs.Q (ah t))).length<=_;unfold Ap;rw[aY];exact aW _ _)) (h.tl ks hk)
  mdb:=λj=>by have h1:=h.24 j;have g:=E2 (ids:=rs.6 j) (A:=Ap (rs.Q (az j))) (B:=rs.Q (az j)) ((h.q.anew h.15).1 (az j)) (λx hx=>by obtain⟨y,c,-,rfl⟩:=A7.1 hx;exact⟨y,c,rfl⟩);refine⟨h1.1,?_⟩;have h2:((Gl rs j).length:Int)=((Al (rs.6 j) (rs.Q (az j))).length:Int):=rfl;show rs.7 j+((Al (rs.6 j) (Ap (rs.Q (az j)))).length:Int)<=(p:Int);omega},?_⟩;unfold MD Ck;rw[h.pn,h.pc,h.pm,h.pd,h.pr];congr 1
 ·funext s;exact h.8 s
 ·funext j;exact h.9 j
def Oe:Dk:=⟨List.replicate 300 ⟨#[]⟩,aj,0⟩
theorem Inv.start{id:Int}(a:0<=id/\id<=3):Inv (Nt id) [] Oe [] 0 0:=by
 have b:∀(j:Nat) (s:ByteArray),Oe.1[j]?=J s->s=⟨#[]⟩:=λj s hs=>by have:=ba hs;exact(List.mem_replicate.1 this).2
 refine⟨⟨λc hc=>(by cases hc),λc hc=>(by cases hc),λj c hj=>by simp at hj,List.length_replicate,⟨oD,oD,oD,λs hs=>?_⟩,λj s _ hs=>b j s hs⟩,QI.start id,a,bg,λx hx=>(by cases hx),oD,λx hx=>(by cases hx),λ_=>rfl,λ_=>rfl,rfl,rfl,rfl,rfl,rfl,λl x hx=>(by cases hx),λj z e=>(by cases e),λj=>⟨cg,bc _⟩,λl=>au _,au _,λu=>au _,⟨bf _,bf _⟩,⟨bf _,bf _⟩,λ_ _=>rfl,λ_=>⟨bf _,bf _⟩,λ_=>bf _,λks _=>Nat.le_of_eq (UP ks)⟩;rw[b _ s hs];exact⟨by simp[ByteArray.size],oD⟩
end
theorem Q5(L:Nat->Prop)(H:Nat)(D:DP)(st:BG)(ms:List Mg)(a:Option Addr)(z kc:Nat)(w:aO)(h:Hx L H D st w)(b8:Aw st.6)(hz:ms.length=z)(j5:z<=1000)(hm:∀(j:Nat) (x:Mg),ms[j]?=J x->∃gb go,a=J ⟨gb,go,E⟩/\gb<w.1.size/\∀k,k<5->w.cell? ⟨gb,go+j*5+k,E⟩=(mc x)[k]?)(f1:∀x∈ms,x.3.size<=bd/\x.4.size<=bd)(e9:∀s,(st.A s).length<=1000):bx al 131 #[af (J ⟨H,0,E⟩),aD a z kc] w λe w'=>∃vq vd,e=aw (bB #[vq,vd])/\Hid (w'.ownsRow w.1.size 52 5 vq (Az st.6 st.A ms).q.length (AK (Az st.6 st.A ms).q)/\w'.ownsRow w.1.size 52 5 vd (Az st.6 st.A ms).d.length (AK (Az st.6 st.A ms).d)/\an w.1.size w w'):=by
 obtain⟨M,cs,P,up,ut,dv,h1,h2,h3,h4,h5,h6,h7,h8,h9,g6,g7,g8,g9⟩:=h;have i7:H<w.1.size:=(aB.1 h1.here).1;obtain⟨pre,post,rest,hc,i3,i2⟩:=h7;have c7:NB w H 89 6 pre post st.6 rest:=⟨by rw[<-hc];exact h1.here,i3,i2⟩;have f6:Hid (∀(q:ByteArray) W,an w.1.size w W->bx al 73 #[af (J ⟨H,6,E⟩),Z q] W λe w'=>e=aw (aJ (Ek st.6 q))/\an W.1.size W w'):=Aa (λq W hB=>GT H 89 6 pre post st.6 rest q W (c7.below hB c7.lt) b8);obtain⟨n,f,vs,ws,g1,g2,g3⟩:=h1;have HQ:Hid (∀(s:ByteArray) W,s.size<=bd->an w.1.size w W->bx al 38 #[af (J ⟨H,0,E⟩),Z s] W λe w'=>∃q,e=aw (af (J ⟨q,0,E⟩))/\Hid (∃v,PQ1 w' q v (AA (st.A s)))/\an W.1.size W w'):=Aa (λs W hs hB=>by
  have g1:=g1.below hB;refine(Hj H M n cs f s W g1.1.o.1 g1.1.m g1.1.q.1 hs).mono ?_;rintro e w' (⟨q,hq,rfl,rfl⟩|⟨hq,rfl,rfl⟩)
  ·exact⟨q,rfl,Aa ⟨_,g1.1.q.q s q hq⟩,av _ _⟩
  ·refine⟨_,rfl,Aa ⟨aD E 0 0,?_⟩,(av _ _).alloc (au _) _⟩;rw[g1.nil hq];exact⟨heap_alloc_new W _,oS,bJ _ _ _ _⟩);have f7:Hid (∀(s:ByteArray) q W,Hid (∃v,PQ1 W q v (AA (st.A s)))->bx al 159 #[af (J ⟨q,0,E⟩)] W λe w'=>e=aw (I F ((st.A s).length:Int))/\W=w'):=Aa (λs q W hq=>by obtain⟨v,hv⟩:=hq.o;have:=TU q v (AA (st.A s)) W hv;rw[A4 (g1.2 s)]at this;exact this);clear g1 g2 g3 h2 h3 h4 h5 h6 h8 h9 g6 g7 g8 g9 b8 c7 hc;have e3:Hid (∀W,an w.1.size w W->∀(j:Nat) (x:Mg),ms[j]?=J x->∃gb go,a=J ⟨gb,go,E⟩/\gb<w.1.size/\∀k,k<5->W.cell? ⟨gb,go+j*5+k,E⟩=(mc x)[k]?):=Aa (λW hB j x hx=>by obtain⟨gb,go,q1,q2,q3⟩:=hm j x hx;exact⟨gb,go,q1,q2,λk hk=>(hB.cell (p:=⟨gb,go+j*5+k,E⟩) q2).trans (q3 k hk)⟩);have f8:=Aa f1;have Hz:=Aa hz;have g0:=Aa e9;obtain⟨j0,e8,f2,f3,f4⟩:=Av FR;have HJ:=Aa e8;have b9:=Aa f2;have c0:=Aa f3;have c1:=Aa f4;clear hm f1 hz e9 e8 f2 f3 f4;have j1:=@cj al;have g:an w.1.size w (w.alloc (ci #[] 0)):=(av _ _).alloc (au _) _;have e1:Hid (PtR w w.1.size 0 (Az st.6 st.A (ms.take 0)) (aD E 0 0) (aD E 0 0) (w.alloc (ci #[] 0))):=Aa ⟨CntM.made w,bJ _ _ _ _,bJ _ _ _ _,λc hc=>by simp[Value.ownBlock]at hc,au _⟩;go_enter Tryz.func131,Tryz.ntmps131;go_wp2;go_loopw[4,5,12] (λvq vd v W=>∃j:Nat,j<=z/\v=I F j/\Hid (PtR w w.1.size j (Az st.6 st.A (ms.take j)) vq vd W)/\an w.1.size w W) (λ_ _ v _=>z-(intOf v).toNat);case atStart=>exact⟨0,bc _,rfl,e1,g⟩
 case round=>
  clear e1 g;obtain⟨j,hj,rfl,HR,hB⟩:=hrel;by_cases i1:j<z
  ·obtain⟨x,hx⟩:∃x,ms[j]?=J x:=⟨_,aF (by rw[Hz.o];exact i1)⟩;obtain⟨gb,go,rfl,i9,e6⟩:=e3.o wr hB j x hx;obtain⟨d0,d1,d2,d3,d4⟩:=JH e6;have b5:Hid (Az st.6 st.A (ms.take (j+1))=EE st.6 st.A (Az st.6 st.A (ms.take j)) x):=Aa (by rw[bh,hx,be,FW]);obtain⟨j4,e0⟩:=f8.o x (ba hx);obtain⟨d8,d7⟩:=El st.6 st.A (ms.take j);rw[bL]at d8 d7;have d9:=d7 x.4;obtain⟨p,Hp⟩:∃p,Hid (Az st.6 st.A (ms.take j)=p):=⟨_,rfl⟩;rw[Hp.o]at HR b5 d8 d9;obtain⟨l,c9⟩:∃l,wr.alloc (bo #[I F x.1,I F x.2,Z x.3,Z x.4,I F x.5] 52)=l:=⟨_,rfl⟩;have Q:an w.1.size w l:=by rw[<-c9];exact hB.alloc hB.4 _
   have b6:Blk l wr.1.size #[I F x.1,I F x.2,Z x.3,Z x.4,I F x.5] 52:=by rw[<-c9];exact Blk.new wr _ 52
   have d5:wr.1.size<l.1.size:=(aB.1 b6).1;have e5:PtR w w.1.size j p u4 u5 l:=by rw[<-c9];exact HR.o.below ((av _ _).alloc (au _) _)
   have b4:=Aa e5;obtain⟨V,a2⟩:∃q,Hid (p.c x.4=q):=⟨_,rfl⟩;rw[a2.o]at d9;have i8:(V:Int)<=1000:=O;have i4:(0:Int)<=V:=O;have c4:Hid (p.q.length<=1000/\p.d.length<=1000):=Aa O;clear d8 d7 d9;have i:Hid (∀W,an l.1.size l W->(W.cell? ⟨wr.1.size,0,E⟩=J (I F x.1)/\W.cell? ⟨wr.1.size,1,E⟩=J (I F x.2)/\W.cell? ⟨wr.1.size,2,E⟩=J (Z x.3)/\W.cell? ⟨wr.1.size,3,E⟩=J (Z x.4)/\W.cell? ⟨wr.1.size,4,E⟩=J (I F x.5)/\(br 209 (bS (J w.1.size)) (Z x.4) aj).run al W=.ok (I F (V:Int)) W)/\an l.1.size l W):=Aa (λW hW=>by have q:Blk W wr.1.size #[I F x.1,I F x.2,Z x.3,Z x.4,I F x.5] 52:=(hW.5 _ d5).trans b6;have r:=(b4.o.below hW).c.look x.4 e0;rw[a2.o]at r;exact⟨⟨by simpa using q.cell 0,by simpa using q.cell 1,by simpa using q.cell 2,by simpa using q.cell 3,by simpa using q.cell 4,r⟩,hW⟩);have b2:Hid (∀W,an l.1.size l W->bx al 73 #[af (J ⟨H,6,E⟩),Z x.4] W λe w'=>e=aw (aJ (Ek st.6 x.4))/\an l.1.size l w'):=Aa (λW hW=>(f6.o x.4 W (Ad Q Q.4 hW)).mono (λe w' q=>⟨q.1,Ad hW hW.4 q.2⟩));have e2:Hid (∀W,an l.1.size l W->bx al 38 #[af (J ⟨H,0,E⟩),Z x.4] W λe w'=>∃q,e=aw (af (J ⟨q,0,E⟩))/\Hid (∃v,PQ1 w' q v (AA (st.A x.4)))/\an l.1.size l w'):=Aa (λW hW=>(HQ.o x.4 W e0 (Ad Q Q.4 hW)).mono (λe w' q=>by obtain⟨b,q1,q2,q3⟩:=q;exact⟨b,q1,q2,Ad hW hW.4 q3⟩));have c2:=Aa (λq W hq=>f7.o x.4 q W hq);have i0:=g0.o x.4;obtain⟨la,e4⟩:∃q,Hid ((st.A x.4).length=q):=⟨_,rfl⟩;rw[e4.o]at c2 i0;have i6:(la:Int)<=1000:=O;have i5:(0:Int)<=la:=O;have b3:Hid (EE st.6 st.A p x=if Ek st.6 x.4=ac/\la+V<20 then⟨λt=>if t=x.4 then V+1 else p.c t,p.q++[x],p.d⟩else⟨p.c,p.q,p.d++[x]⟩):=Aa (by unfold EE;rw[e4.o,a2.o]);obtain⟨ob,g5⟩:∃b,Hid (Ek st.6 x.4=b):=⟨_,rfl⟩;rw[g5.o]at b2 b3;have f5:Hid (∀W,an l.1.size l W->∃N,(bz 209 (bS (J w.1.size)) (Z x.4) (I F ((V:Int)+1))).run al W=.ok () N/\PtR w w.1.size (j+1) ⟨λt=>if t=x.4 then V+1 else p.c t,p.q,p.d⟩ u4 u5 N/\an w.1.size w N/\N.1.size≥W.1.size/\N.cell? ⟨wr.1.size,0,E⟩=J (I F x.1)/\N.cell? ⟨wr.1.size,1,E⟩=J (I F x.2)/\N.cell? ⟨wr.1.size,2,E⟩=J (Z x.3)/\N.cell? ⟨wr.1.size,3,E⟩=J (Z x.4)/\N.cell? ⟨wr.1.size,4,E⟩=J (I F x.5)):=Aa (λW hW=>by obtain⟨N,q1,q2,q3⟩:=(b4.o.below hW).count x.4 e0 (by rw[a2.o];omega) O;rw[a2.o]at q1 q2;have a3:=Ad Q Q.4 hW;have j3:=hB.4;have q:Blk N wr.1.size #[I F x.1,I F x.2,Z x.3,Z x.4,I F x.5] 52:=(q3.5 _ (bq d5 hW.4) (λe=>by injection e with e;have:=(HR.o).c.lt;omega)).trans ((hW.5 _ d5).trans b6);exact⟨N,q1,q2,⟨q3.1.trans a3.1,q3.2.trans a3.2,q3.3.trans a3.3,bu a3.4 q3.4,λk hk=>(q3.5 k (bq hk a3.4) (λe=>by injection e with e;omega)).trans (a3.5 k hk)⟩,q3.4,by simpa using q.cell 0,by simpa using q.cell 1,by simpa using q.cell 2,by simpa using q.cell 3,by simpa using q.cell 4⟩);obtain⟨⟨y0,y1,y2,y3,y4,r0⟩,c6⟩:=i.o l (av _ _);have b1:=Aa Q;clear e6 hx b6 e5 HR a2;go_wp2;cases ob
   ·as_aux_lemma=>
    refine aQ (S:=(λW=>(W.cell? ⟨wr.1.size,0,E⟩=J (I F x.1)/\W.cell? ⟨wr.1.size,1,E⟩=J (I F x.2)/\W.cell? ⟨wr.1.size,2,E⟩=J (Z x.3)/\W.cell? ⟨wr.1.size,3,E⟩=J (Z x.4)/\W.cell? ⟨wr.1.size,4,E⟩=J (I F x.5)/\(br 209 (bS (J w.1.size)) (Z x.4) aj).run al W=.ok (I F (V:Int)) W)/\an l.1.size l W)) K (i.o _ (av _ _).drew) (λhHeld=>?_);refine tk 0 16 (af (J ⟨H,0,E⟩)) ?_;refine tk 1 17 (af (J ⟨H,0,E⟩)) ?_;refine tk 2 18 (af (J ⟨H,6,E⟩)) ?_;refine tk 3 19 (af (J ⟨wr.1.size,3,E⟩)) ?_;refine tr 4 20 (Z x.4) ?_ ?_
    ·rintro W ⟨⟨z0,z1,z2,z3,z4,t0⟩,-⟩;go_simp
    refine aL (rs:=[5]) K oS ?_;refine aE rfl (λj6 U=>?_) aH;go_simp;refine aR (b2.o _ (av _ _).drew) ?_;rintro e w5 ⟨rfl,u⟩;dsimp only;refine U.out _ _ (i.o _ u) (λhHeld=>?_);clear U j6;try simp only[bi,ai,ay,ax]
    refine tk 6 22 (aJ aj) ?_;refine sk 7 23 ?_;refine sk 8 24 ?_;refine sk 9 25 ?_;refine sk 10 26 ?_;refine sk 11 27 ?_;refine sk 12 28 ?_;refine sk 13 29 ?_;refine sk 14 30 ?_;refine sk 15 31 ?_;refine sk 16 32 ?_;refine sk 17 33 ?_;refine tk 18 34 (aJ aj) ?_;refine bp K ?_ _;have a6:Hid (Az st.6 st.A (ms.take (j+1))=⟨p.c,p.q,p.d++[x]⟩):=Aa (by rw[b5.o,b3.o,if_neg oS]);have a0:=Aa (b4.o.below u);have a4:Hid (an w.1.size w w5):=Aa (Ad b1.o b1.o.4 u);obtain⟨⟨y0,y1,y2,y3,y4,r0⟩,-⟩:=i.o _ u;obtain⟨ln,y⟩:∃q,Hid (p.d.length=q):=⟨_,rfl⟩;have X:Hid ((w5.alloc (bo #[I F x.1,I F x.2,Z x.3,Z x.4,I F x.5] 52)).ownsRow w.1.size 52 5 u5 ln (AK p.d)):=Aa (by rw[<-y.o];exact a0.o.d.alloc _);have g:an w.1.size w (w5.alloc (bo #[I F x.1,I F x.2,Z x.3,Z x.4,I F x.5] 52)):=a4.o.alloc a4.o.4 _;have f0:ln<=1000:=by rw[<-y.o];exact c4.o.2
    have a5:=Aa (EC (w:=w5) x);clear Q u c6;go_wp2_with(first|refine EN rfl (.tmp 45) rfl x rfl ?_|(at_builtin;refine bk ?_));refine Aa ?_;go_wp2_with(at_builtin;go_must(refine BO rfl _ _ 31 rfl w.1.size 52 j0 _ 5 56 bI HJ.o b9.o c0.o c1.o rfl oD u5 ln _ rfl X.o ⟨w5.1.size,0,E⟩ 1 1 oD (mc x) rfl rfl a5.o (Cf _) (by unfold bd;omega) O g.4 ?_));intro v8 N B a1 a8;have c5:an w.1.size w N:=AW g X.o a1 g.4 (au _);have c3:Hid (PtR w w.1.size (j+1) (Az st.6 st.A (ms.take (j+1))) u4 v8 N):=Aa (by rw[a6.o];exact(a0.o.below ((av _ _).alloc (au _) _)).pushd (by rw[y.o];exact B) a1 a8);clear B a1 a8 g;go_wp2;go_roundw;case rel=>exact⟨j+1,O,by go_num,c3,c5⟩
    case measure=>simp[intOf];omega
   ·by_cases a9:la+V<20
    ·as_aux_lemma=>
     have a9:((la:Int)+(V:Int)<20):=O;refine aQ (S:=(λW=>(W.cell? ⟨wr.1.size,0,E⟩=J (I F x.1)/\W.cell? ⟨wr.1.size,1,E⟩=J (I F x.2)/\W.cell? ⟨wr.1.size,2,E⟩=J (Z x.3)/\W.cell? ⟨wr.1.size,3,E⟩=J (Z x.4)/\W.cell? ⟨wr.1.size,4,E⟩=J (I F x.5)/\(br 209 (bS (J w.1.size)) (Z x.4) aj).run al W=.ok (I F (V:Int)) W)/\an l.1.size l W)) K (i.o _ (av _ _).drew) (λhHeld=>?_);refine tk 0 16 (af (J ⟨H,0,E⟩)) ?_;refine tk 1 17 (af (J ⟨H,0,E⟩)) ?_;refine tk 2 18 (af (J ⟨H,6,E⟩)) ?_;refine tk 3 19 (af (J ⟨wr.1.size,3,E⟩)) ?_;refine tr 4 20 (Z x.4) ?_ ?_
     ·rintro W ⟨⟨z0,z1,z2,z3,z4,t0⟩,-⟩;go_simp
     refine aL (rs:=[5]) K oS ?_;refine aE rfl (λj6 U=>?_) aH;go_simp;refine aR (b2.o _ (av _ _).drew) ?_;rintro e w5 ⟨rfl,u⟩;dsimp only;refine U.out _ _ (i.o _ u) (λhHeld=>?_);clear U j6;try simp only[bi,ai,ay,ax]
     refine tk 6 22 (aJ ac) ?_;refine tk 7 23 (af (J ⟨H,0,E⟩)) ?_;refine tk 8 24 (af (J ⟨wr.1.size,3,E⟩)) ?_;refine tr 9 25 (Z x.4) ?_ ?_
     ·rintro W ⟨⟨z0,z1,z2,z3,z4,t0⟩,-⟩;go_simp
     refine tk 12 28 (bS (J w.1.size)) ?_;refine tk 13 29 (af (J ⟨wr.1.size,3,E⟩)) ?_;refine tr 14 30 (Z x.4) ?_ ?_
     ·rintro W ⟨⟨z0,z1,z2,z3,z4,t0⟩,-⟩;go_simp
     refine tr 15 31 (I F (V:Int)) ?_ ?_
     ·rintro W ⟨⟨z0,z1,z2,z3,z4,t0⟩,-⟩;go_simp
     refine aL (rs:=[10]) K oS ?_;refine aE rfl (λj6 U=>?_) aH;go_simp;refine aR (e2.o _ u) ?_;rintro e w6 ⟨q6,rfl,b7,R⟩;dsimp only;refine U.out _ _ (i.o _ R) (λhHeld=>?_);clear U j6;try simp only[bi,ai,ay,ax]
     refine aL (rs:=[11]) K oS ?_;refine aE rfl (λj6 U=>?_) aH;go_simp;refine aR (c2.o q6 _ b7) ?_;rintro e w7 ⟨rfl,rfl⟩;dsimp only;refine U.out _ _ (i.o _ R) (λhHeld=>?_);clear U j6;try simp only[bi,ai,ay,ax]
     refine tr 16 32 (I F ((la:Int)+(V:Int))) ?_ ?_
     ·rintro W ⟨⟨z0,z1,z2,z3,z4,t0⟩,-⟩;go_simp;rw[cb];omega
     refine tr 17 33 (aJ ac) ?_ ?_
     ·rintro W ⟨⟨z0,z1,z2,z3,z4,t0⟩,-⟩;simp[go_sem,a9]
     refine tk 18 34 (aJ ac) ?_;refine bp K ?_ _;have a6:Hid (Az st.6 st.A (ms.take (j+1))=⟨λt=>if t=x.4 then V+1 else p.c t,p.q++[x],p.d⟩):=Aa (by rw[b5.o,b3.o,if_pos ⟨rfl,O⟩]);obtain⟨⟨y0,y1,y2,y3,y4,r0⟩,-⟩:=i.o _ R;obtain⟨N,j2,c8,a7,-,v0,v1,v2,v3,v4⟩:=f5.o w6 R;have a0:=Aa c8;obtain⟨ln,y⟩:∃q,Hid (p.q.length=q):=⟨_,rfl⟩;have X:Hid ((N.alloc (bo #[I F x.1,I F x.2,Z x.3,Z x.4,I F x.5] 52)).ownsRow w.1.size 52 5 u4 ln (AK p.q)):=Aa (by rw[<-y.o];exact c8.q.alloc _);have g:an w.1.size w (N.alloc (bo #[I F x.1,I F x.2,Z x.3,Z x.4,I F x.5] 52)):=a7.alloc a7.4 _;have f0:ln<=1000:=by rw[<-y.o];exact c4.o.1
     have a5:=Aa (EC (w:=N) x);clear Q u c6 c8 a7 b7;go_wp2_with(first|refine EN rfl (.tmp 41) rfl x rfl ?_|(at_builtin;refine bk ?_));refine Aa ?_;go_wp2_with(at_builtin;go_must(refine BO rfl _ _ 31 rfl w.1.size 52 j0 _ 5 56 bI HJ.o b9.o c0.o c1.o rfl oD u4 ln _ rfl X.o ⟨N.1.size,0,E⟩ 1 1 oD (mc x) rfl rfl a5.o (Cf _) (by unfold bd;omega) O g.4 ?_));intro v9 w9 b0 d6 e7;have h0:an w.1.size w w9:=AW g X.o d6 g.4 (au _);have f9:Hid (PtR w w.1.size (j+1) (Az st.6 st.A (ms.take (j+1))) v9 u5 w9):=Aa (by rw[a6.o];exact(a0.o.below ((av _ _).alloc (au _) _)).pushq (by show w9.ownsRow _ _ _ _ (p.q.length+1) _;rw[y.o];exact b0) d6 e7);clear b0 d6 e7 g;go_wp2;go_roundw;case rel=>exact⟨j+1,O,by go_num,f9,h0⟩
     case measure=>simp[intOf];omega
    ·as_aux_lemma=>
     have g4:=Aa a9;have a9:¬((la:Int)+(V:Int)<20):=O;refine aQ (S:=(λW=>(W.cell? ⟨wr.1.size,0,E⟩=J (I F x.1)/\W.cell? ⟨wr.1.size,1,E⟩=J (I F x.2)/\W.cell? ⟨wr.1.size,2,E⟩=J (Z x.3)/\W.cell? ⟨wr.1.size,3,E⟩=J (Z x.4)/\W.cell? ⟨wr.1.size,4,E⟩=J (I F x.5)/\(br 209 (bS (J w.1.size)) (Z x.4) aj).run al W=.ok (I F (V:Int)) W)/\an l.1.size l W)) K (i.o _ (av _ _).drew) (λhHeld=>?_);refine tk 0 16 (af (J ⟨H,0,E⟩)) ?_;refine tk 1 17 (af (J ⟨H,0,E⟩)) ?_;refine tk 2 18 (af (J ⟨H,6,E⟩)) ?_;refine tk 3 19 (af (J ⟨wr.1.size,3,E⟩)) ?_;refine tr 4 20 (Z x.4) ?_ ?_
     ·rintro W ⟨⟨z0,z1,z2,z3,z4,t0⟩,-⟩;go_simp
     refine aL (rs:=[5]) K oS ?_;refine aE rfl (λj6 U=>?_) aH;go_simp;refine aR (b2.o _ (av _ _).drew) ?_;rintro e w5 ⟨rfl,u⟩;dsimp only;refine U.out _ _ (i.o _ u) (λhHeld=>?_);clear U j6;try simp only[bi,ai,ay,ax]
     refine tk 6 22 (aJ ac) ?_;refine tk 7 23 (af (J ⟨H,0,E⟩)) ?_;refine tk 8 24 (af (J ⟨wr.1.size,3,E⟩)) ?_;refine tr 9 25 (Z x.4) ?_ ?_
     ·rintro W ⟨⟨z0,z1,z2,z3,z4,t0⟩,-⟩;go_simp
     refine tk 12 28 (bS (J w.1.size)) ?_;refine tk 13 29 (af (J ⟨wr.1.size,3,E⟩)) ?_;refine tr 14 30 (Z x.4) ?_ ?_
     ·rintro W ⟨⟨z0,z1,z2,z3,z4,t0⟩,-⟩;go_simp
     refine tr 15 31 (I F (V:Int)) ?_ ?_
     ·rintro W ⟨⟨z0,z1,z2,z3,z4,t0⟩,-⟩;go_simp
     refine aL (rs:=[10]) K oS ?_;refine aE rfl (λj6 U=>?_) aH;go_simp;refine aR (e2.o _ u) ?_;rintro e w6 ⟨q6,rfl,b7,R⟩;dsimp only;refine U.out _ _ (i.o _ R) (λhHeld=>?_);clear U j6;try simp only[bi,ai,ay,ax]
     refine aL (rs:=[11]) K oS ?_;refine aE rfl (λj6 U=>?_) aH;go_simp;refine aR (c2.o q6 _ b7) ?_;rintro e w7 ⟨rfl,rfl⟩;dsimp only;refine U.out _ _ (i.o _ R) (λhHeld=>?_);clear U j6;try simp only[bi,ai,ay,ax]
     refine tr 16 32 (I F ((la:Int)+(V:Int))) ?_ ?_
     ·rintro W ⟨⟨z0,z1,z2,z3,z4,t0⟩,-⟩;go_simp;rw[cb];omega
     refine tr 17 33 (aJ aj) ?_ ?_
     ·rintro W ⟨⟨z0,z1,z2,z3,z4,t0⟩,-⟩;simp[go_sem,a9]
     refine tk 18 34 (aJ aj) ?_;refine bp K ?_ _;have a6:Hid (Az st.6 st.A (ms.take (j+1))=⟨p.c,p.q,p.d++[x]⟩):=Aa (by rw[b5.o,b3.o,if_neg (λq=>g4.o q.2)]);have a0:=Aa (b4.o.below R);have a4:Hid (an w.1.size w w6):=Aa (Ad b1.o b1.o.4 R);obtain⟨⟨y0,y1,y2,y3,y4,r0⟩,-⟩:=i.o _ R;obtain⟨ln,y⟩:∃q,Hid (p.d.length=q):=⟨_,rfl⟩;have X:Hid ((w6.alloc (bo #[I F x.1,I F x.2,Z x.3,Z x.4,I F x.5] 52)).ownsRow w.1.size 52 5 u5 ln (AK p.d)):=Aa (by rw[<-y.o];exact a0.o.d.alloc _);have g:an w.1.size w (w6.alloc (bo #[I F x.1,I F x.2,Z x.3,Z x.4,I F x.5] 52)):=a4.o.alloc a4.o.4 _;have f0:ln<=1000:=by rw[<-y.o];exact c4.o.2
     have a5:=Aa (EC (w:=w6) x);clear Q u c6;go_wp2_with(first|refine EN rfl (.tmp 45) rfl x rfl ?_|(at_builtin;refine bk ?_));refine Aa ?_;go_wp2_with(at_builtin;go_must(refine BO rfl _ _ 31 rfl w.1.size 52 j0 _ 5 56 bI HJ.o b9.o c0.o c1.o rfl oD u5 ln _ rfl X.o ⟨w6.1.size,0,E⟩ 1 1 oD (mc x) rfl rfl a5.o (Cf _) (by unfold bd;omega) O g.4 ?_));intro v8 N B a1 a8;have c5:an w.1.size w N:=AW g X.o a1 g.4 (au _);have c3:Hid (PtR w w.1.size (j+1) (Az st.6 st.A (ms.take (j+1))) u4 v8 N):=Aa (by rw[a6.o];exact(a0.o.below ((av _ _).alloc (au _) _)).pushd (by rw[y.o];exact B) a1 a8);clear B a1 a8 g;go_wp2;go_roundw;case rel=>exact⟨j+1,O,by go_num,c3,c5⟩
     case measure=>simp[intOf];omega
  ·obtain rfl:j=z:=O;rw[show ms.take j=ms from bv (by rw[Hz.o];exact au _)]at HR;have HF:=Aa (And.intro HR.o.q (And.intro HR.o.d hB));clear HR hB;go_wp2;go_ret2;exact⟨_,_,rfl,HF⟩
def Vx(a:(p:Prop)->Decidable p)(st:BG)(far n:Int)(l:List Mg):Int:=if Bm st.7 far=ac then(if st.10=ac then 6 else if n<=st.ar far.toNat then 0 else if st.ar far.toNat+1<n then 10 else KI a st l)else 2
def YR(L:Nat->Prop)(H:Nat)(D:DP)(st:BG)(far n:Int)(l:List Mg)(d:Dk)(w:aO)(e:Ending)(w':aO):Prop:=(Vx C st far n l≠0/\e=aw (bB #[I F 0,bE 70 (I F (Vx C st far n l))])/\an w.1.size w w')\/(Vx C st far n l=0/\n<=st.ar far.toNat/\e=aw (bB #[I F (st.ar far.toNat),bl])/\w=w')\/(Vx C st far n l=0/\¬n<=st.ar far.toNat/\∃W,an w.1.size w W/\((∃z:Int,e=aw (bB #[I F 0,bE 70 (I F z)])/\Qz L H D st (BH far.toNat (Az st.6 st.A l).q (Az st.6 st.A l).d) (IV st far.toNat (Az st.6 st.A l).q (Az st.6 st.A l).d) d W (aw (bE 70 (I F z))) w')\/(e=aw (bB #[I F (st.ar far.toNat+1),bl])/\Qz L H D st (BH far.toNat (Az st.6 st.A l).q (Az st.6 st.A l).d) (IV st far.toNat (Az st.6 st.A l).q (Az st.6 st.A l).d) d W (aw bl) w')))
theorem Hx.ar81{L:Nat->Prop}{H:Nat}{D:DP}{st:BG}{w:aO}(h:Hx L H D st w){i:Nat}(e:i<4):w.cell? ⟨H,78+i*4+3,E⟩=J (I F (st.ar i))/\H<w.1.size:=by obtain⟨M,cs,P,up,ut,dv,h1,h2,f,g,j,k,l,m,n,b,a,c,d⟩:=h;exact⟨(h1.cell (78+i*4+3)).trans (a.3 i e),(aB.1 h1.here).1⟩
theorem Yk{st:BG}{l:List Mg}(h:KI C st l=0):∀x∈l,In st.7 x=ac:=λx hx=>by
 unfold KI at h;cases e:In st.7 x with
 |true=>rfl
 |false=>rw[if_pos ⟨x,hx,e⟩]at h;cases h
theorem KL{id:Int}{x:Mg}(h:In id x=ac):right x=ac:=by simp only[In,bb]at h;exact h.1.1
theorem WO{w:aO}{B t z m c:Nat}{a:Option Addr}{xs:List cq}(j:w.ownsRow B t z (aD a m c) m xs):∀b o,a=J ⟨b,o,E⟩->B<=b/\b<w.1.size:=λb o e=>by
 subst e;rcases j.2 with⟨d,-⟩|⟨g,f,h,d,i,hg,-⟩
 ·cases d
 ·cases d;exact⟨i,(aB.1 hg).1⟩
theorem OI(L:Nat->Prop)(H:Nat)(D:DP)(st:BG)(far n:Int)(ms:List Mg)(a:Option Addr)(z kc:Nat)(d:Dk)(w:aO)(h:Hx L H D st w)(hD:DB w D d)(c7:¬L D.b)(hk:F2 d st.k)(hL:Lay w)(ho:Aw st.6)(hz:ms.length=z)(d7:z<=1000)(hm:∀(j:Nat) (x:Mg),ms[j]?=J x->∃gb go,a=J ⟨gb,go,E⟩/\gb<w.1.size/\∀k,k<5->w.cell? ⟨gb,go+j*5+k,E⟩=(mc x)[k]?)(b7:∀x∈ms,x.3.size<=bd/\x.4.size<=bd)(a6:∀s,(st.A s).length+z<=1000)(hN:st.N+z<1000000)(c8:∀j,0<=st.ar j/\st.ar j<=1000000):bx al 99 #[af (J ⟨H,0,E⟩),I F far,I F n,aD a z kc] w (YR L H D st far n ms d w):=by
 generalize hPost:YR L H D st far n ms d w=Post;have u:=Aa hPost;clear hPost;have HX:=Aa h;have v:Hid (Vx C st far n ms=if Bm st.7 far=ac then(if st.10=ac then 6 else if n<=st.ar far.toNat then 0 else if st.ar far.toNat+1<n then 10 else KI C st ms)else 2):=Aa (by unfold Vx;congr);have a3:Hid (∀er W,Vx C st far n ms=er->er≠0->an w.1.size w W->Post (aw (bB #[I F 0,bE 70 (I F er)])) W):=Aa (λer W he h0 hB=>by rw[<-u.o];exact aN ⟨by rw[he];exact h0,by rw[he],hB⟩);have a8:=Aa (OJ L H D st ms a z kc w h hz d7 hm b7 (λs=>by have:=a6 s;omega));have a4:Hid (∀W,an w.1.size w W->bx al 131 #[af (J ⟨H,0,E⟩),aD a z kc] W λe w'=>∃vq vd,e=aw (bB #[vq,vd])/\Hid (w'.ownsRow W.1.size 52 5 vq (Az st.6 st.A ms).q.length (AK (Az st.6 st.A ms).q)/\w'.ownsRow W.1.size 52 5 vd (Az st.6 st.A ms).d.length (AK (Az st.6 st.A ms).d)/\an W.1.size W w')):=Aa (λW hB=>Q5 L H D st ms a z kc W (h.below hB) ho hz d7 (λj x hx=>by obtain⟨gb,go,q1,q2,q3⟩:=hm j x hx;exact⟨gb,go,q1,bq q2 hB.4,λk hk=>(hB.cell (p:=⟨gb,go+j*5+k,E⟩) q2).trans (q3 k hk)⟩) b7 (λs=>by have:=a6 s;omega));have a7:Hid ((Az st.6 st.A ms).q.length+(Az st.6 st.A ms).d.length=z):=Aa (by rw[(El st.6 st.A ms).1];exact hz);have HMem:Hid (∀x,x∈(Az st.6 st.A ms).q\/x∈(Az st.6 st.A ms).d->x∈ms):=Aa (λx hx=>by
  have:∀(l:List Mg) (p:Pt),(∀y,y∈p.q\/y∈p.d->y∈ms)->(∀y∈l,y∈ms)->∀y,y∈(l.foldl (EE st.6 st.A) p).q\/y∈(l.foldl (EE st.6 st.A) p).d->y∈ms:=by
   intro l;induction l with
   |nil=>intro p hp _ y f;exact hp y f
   |cons m r ih=>
    intro p hp hl;refine ih _ (λy f=>?_) (λy f=>hl y (ag _ f));have d2:=hl m (am ..);unfold EE at f;split at f
    ·rcases f with f|f
     ·rcases Y.1 f with f|f
      ·exact hp y (aN f)
      ·rw[ab.1 f];exact d2
     ·exact hp y (aK f)
    ·rcases f with f|f
     ·exact hp y (aN f)
     ·rcases Y.1 f with f|f
      ·exact hp y (aK f)
      ·rw[ab.1 f];exact d2
  exact this ms ⟨λ_=>0,[],[]⟩ (λy f=>by simp at f) (λy f=>f) x hx);obtain⟨M,cs,P,up,ut,dv,h1,h2,h3,h4,h5,h6,h7,h8,h9,f3,f4,f5,f8⟩:=h;have c0:=(h1.cell 0).trans h9;have c4:=(h1.cell 4).trans h8.4;have HA:=Aa (Cp H st.7 far w c0);have b8:=Aa c8;have f1:=Aa a6;have HN:=Aa hN;have HD:=Aa hD;have d8:=Aa c7;have HK:=Aa hk;have HL:=Aa hL;have Hz:=Aa hz;clear h1 h2 h3 h4 h5 h6 h7 h8 h9 f3 f4 f5 f8 c0 hm b7 a6 hN c8 hD c7 hk hL ho hz;obtain⟨b,Hb⟩:∃b,Hid (Bm st.7 far=b):=⟨_,rfl⟩;rw[Hb.o]at HA v;cases b
 ·have Q:=Aa (a3.o 2 w (by rw[v.o,if_neg oD]) oD (av _ _));go_enter bD,bA;go_wp2_with(go_at_call 35;go_must(refine HA.o.mono ?_);rintro e w1 ⟨rfl,rfl⟩;refine bk ?_);refine Aa ?_;go_wp2;exact Q.o
 rw[if_pos rfl]at v;obtain⟨dn,f0⟩:∃q,Hid (st.10=q):=⟨_,rfl⟩;rw[f0.o]at c4 v;cases dn;case true=>have Q:=Aa (a3.o 6 w (by rw[v.o,if_pos rfl]) oD (av _ _));go_enter bD,bA;go_wp2_with(go_at_call 35;go_must(refine HA.o.mono ?_);rintro e w1 ⟨rfl,rfl⟩;refine bk ?_);refine Aa ?_;go_wp2;exact Q.o
 rw[if_neg oD]at v;obtain⟨⟨k0,k4⟩,-⟩:=AE.1 Hb.o;obtain⟨i,f9⟩:∃n:Nat,far=(n:Int):=⟨far.toNat,O⟩;subst f9;have hi:i<4:=O;rw[aG]at v;obtain⟨f2,i1⟩:=HX.o.ar81 hi;obtain⟨c9,d0⟩:=b8.o i;obtain⟨ar,R⟩:∃q,Hid (st.ar i=q):=⟨_,rfl⟩;rw[R.o]at f2 v c9 d0;by_cases a2:n<=ar
 ·have Q:Hid (Post (aw (bB #[I F ar,bl])) w):=Aa (by rw[<-u.o];exact aK (aN ⟨by rw[v.o,if_pos a2],by rw[aG,R.o];exact a2,by rw[aG,R.o],rfl⟩));go_enter bD,bA;go_wp2_with(go_at_call 35;go_must(refine HA.o.mono ?_);rintro e w1 ⟨rfl,rfl⟩;refine bk ?_);refine Aa ?_;go_wp2;exact Q.o
 by_cases d3:ar+1<n
 ·have Q:=Aa (a3.o 10 w (by rw[v.o,if_neg a2,if_pos d3]) oD (av _ _));go_enter bD,bA;go_wp2_with(go_at_call 35;go_must(refine HA.o.mono ?_);rintro e w1 ⟨rfl,rfl⟩;refine bk ?_);refine Aa ?_;go_wp2;exact Q.o
 rw[if_neg a2,if_neg d3]at v;have c3:Hid (¬n<=st.ar ((i:Int)).toNat):=Aa (by rw[aG,R.o];exact a2);have c2:Hid (bx al 130 #[af (J ⟨H,0,E⟩),aD a z kc] w λe w'=>(e=aw (bE 70 (I F (KI C st ms)))/\Hid (KI C st ms≠0/\an w.1.size w w'))\/(e=aw bl/\Hid (KI C st ms=0/\an w.1.size w w'))):=Aa (a8.o.mono (λe w' q=>by
  rcases q with⟨⟨q1,rfl⟩|⟨q1,rfl⟩,q2⟩
  ·exact aN ⟨rfl,Aa ⟨q1,q2⟩⟩
  ·exact aK ⟨rfl,Aa ⟨q1,q2⟩⟩));obtain⟨my,c5⟩:∃q,Hid (KI C st ms=q):=⟨_,rfl⟩;rw[c5.o]at v c2;clear a8;go_enter bD,bA;go_wp2_with(go_at_call 35;go_must(refine HA.o.mono ?_);rintro e w1 ⟨rfl,rfl⟩;refine bk ?_);refine Aa ?_;clear HA;go_wp2_with(go_at_call 130;go_must(refine c2.o.mono ?_);intro e w1 hr;obtain⟨rfl,hq⟩|⟨rfl,hq⟩:=hr<;>refine bk ?_)
 ·refine Aa ?_;have Q:=Aa (a3.o my w1 v.o hq.o.1 hq.o.2);clear hq;go_wp2;exact Q.o
 ·refine Aa ?_;obtain rfl:my=0:=hq.o.1;have V:=hq.o.2;have i0:=Aa V;have d4:=Yk c5.o;have HOk:=Aa d4;obtain⟨pq,b4⟩:∃q,Hid ((Az st.6 st.A ms).q=q):=⟨_,rfl⟩;obtain⟨pd,b3⟩:∃q,Hid ((Az st.6 st.A ms).d=q):=⟨_,rfl⟩;rw[b4.o,b3.o]at a4 a7 HMem;obtain⟨W2,a0⟩:∃W2,w1.alloc (bo #[I F 5,Z ⟨#[]⟩,Z ⟨#[]⟩,I F 0,I F (i:Int),aD E 0 0,aD E 0 0,aD E 0 0,aD E 0 0] 105)=W2:=⟨_,rfl⟩;have c6:an w.1.size w W2:=by rw[<-a0];exact V.alloc V.4 _
  have b5:Blk W2 w1.1.size #[I F 5,Z ⟨#[]⟩,Z ⟨#[]⟩,I F 0,I F (i:Int),aD E 0 0,aD E 0 0,aD E 0 0,aD E 0 0] 105:=by rw[<-a0];exact Blk.new w1 _ 105
  have i2:w1.1.size<W2.1.size:=(aB.1 b5).1;obtain⟨lq,b2⟩:∃q,Hid (pq.length=q):=⟨_,rfl⟩;obtain⟨ld,b1⟩:∃q,Hid (pd.length=q):=⟨_,rfl⟩;rw[b2.o,b1.o]at a4;have a9:=Aa (a4.o W2 c6);rw[<-a0]at a9;have d9:=Aa a0;have b9:=Aa c6;have e9:=Aa b5;have i4:w.1.size<=w1.1.size:=V.4;clear hq d4 a4 V b5 a0;go_wp2_with(go_at_call 131;go_must(refine a9.o.mono ?_);rintro e w3 ⟨vq,vd,rfl,t⟩;refine bk ?_);refine Aa ?_;rw[d9.o]at t;obtain⟨aq,kq,rfl⟩:=Ao t.o.1;obtain⟨ad,kd,rfl⟩:=Ao t.o.2.1;have g:=e9.o.after t.o.2.2;obtain⟨⟨e0,e1,e2,e3,e4,e5,e6,e7,e8⟩,f6,f7⟩:(w3.cell? ⟨w1.1.size,0,E⟩=J (I F 5)/\w3.cell? ⟨w1.1.size,1,E⟩=J (Z ⟨#[]⟩)/\w3.cell? ⟨w1.1.size,2,E⟩=J (Z ⟨#[]⟩)/\w3.cell? ⟨w1.1.size,3,E⟩=J (I F 0)/\w3.cell? ⟨w1.1.size,4,E⟩=J (I F (i:Int))/\w3.cell? ⟨w1.1.size,5,E⟩=J (aD E 0 0)/\w3.cell? ⟨w1.1.size,6,E⟩=J (aD E 0 0)/\w3.cell? ⟨w1.1.size,7,E⟩=J (aD E 0 0)/\w3.cell? ⟨w1.1.size,8,E⟩=J (aD E 0 0))/\w3.frozen? ⟨w1.1.size,6,E⟩=aj/\w3.frozen? ⟨w1.1.size,7,E⟩=aj:=⟨⟨g.cell 0,g.cell 1,g.cell 2,g.cell 3,g.cell 4,g.cell 5,g.cell 6,g.cell 7,g.cell 8⟩,g.free 6,g.free 7⟩;have b6:=(g.n6 (aD aq lq kq)).n7 (aD ad ld kd);obtain⟨B,U⟩:∃B,(w3.setCell ⟨w1.1.size,6,E⟩ (aD aq lq kq)).setCell ⟨w1.1.size,7,E⟩ (aD ad ld kd)=B:=⟨_,rfl⟩;rw[U]at b6;have i3:W2.1.size<=w3.1.size:=t.o.2.2.4;have d5:B.1.size=w3.1.size:=by rw[<-U];simp
  have a5:∀k,k≠w1.1.size->B.1[k]?=w3.1[k]?:=λk hk=>by rw[<-U,bW _ _ _ _ hk,bW _ _ _ _ hk]
  have S:an w.1.size w w3:=Ad b9.o b9.o.4 t.o.2.2;have X:an w.1.size w B:=⟨by rw[<-U];exact S.1,by rw[<-U];exact S.2,by rw[<-U];exact S.3,by rw[d5];exact S.4,λk hk=>(a5 k O).trans (S.5 k hk)⟩;have oq:B.ownsRow W2.1.size 52 5 (aD aq lq kq) lq (AK pq):=Au t.o.1 (λc hc=>a5 c (by have:=(t.o.1.lt c hc).1;omega));have od:B.ownsRow W2.1.size 52 5 (aD ad ld kd) ld (AK pd):=Au t.o.2.1 (λc hc=>a5 c (by have:=(t.o.2.1.lt c hc).1;omega));have a1:∀(x:Option Addr) (l c:Nat) (xs:List cq),B.ownsRow W2.1.size 52 5 (aD x l c) l xs->∀b o,x=J ⟨b,o,E⟩->w.1.size<=b/\b<B.1.size:=λx l c xs h b o e=>by have:=WO h b o e;omega
  have d1:=a7.o;have b0:Hid (bx al 76 #[af (J ⟨H,0,E⟩),bR #[I F 5,Z ⟨#[]⟩,Z ⟨#[]⟩,I F 0,I F (i:Int),aD E 0 0,aD aq lq kq,aD ad ld kd,aD E 0 0]] B λe w'=>((∃z:Int,e=aw (bE 70 (I F z)))\/e=aw bl)/\Hid (Qz L H D st (BH i pq pd) (IV st i pq pd) d B e w')):=Aa (by
   have q:=TG L H D st i pq pd aq ad kq kd d w B HX.o X (CC (by rw[b2.o];exact oq)) (CC (by rw[b1.o];exact od)) (a1 aq lq kq _ oq) (a1 ad ld kd _ od) (λm hm=>KL (HOk.o m (HMem.o m (aN hm)))) (λm hm=>KL (HOk.o m (HMem.o m (aK hm)))) ⟨O,O⟩ (λs=>by have:=f1.o s;omega) (by have:=HN.o;omega) ⟨(X.5 D.b HD.o.lt).trans HD.o.1,HD.o.2,HD.o.3⟩ d8.o HK.o (HL.o.on (X.mono HL.o.5)) hi b8.o;rw[b2.o,b1.o]at q;refine q.mono (λe w' q=>⟨?_,Aa q⟩);rcases q with⟨_,_,rfl,_⟩|⟨_,_,_,_,_,_,_,⟨_,rfl,_⟩|⟨_,rfl,_⟩⟩
   ·exact aN ⟨_,rfl⟩
   ·exact aN ⟨_,rfl⟩
   ·exact aK rfl);have c1:=Aa X;obtain⟨g0,g1,g2,g3,g4,g5,g6,g7,g8⟩:=b6.nine.1;clear t g b6 oq od a1 S X a5 d5 a9 d1;go_wp2_with(go_at_call 76;go_must(refine b0.o.mono ?_);intro e w5 hr;obtain⟨⟨z5,rfl⟩|rfl,hc⟩:=hr<;>refine bk ?_)
  ·refine Aa ?_;have Q:Hid (Post (aw (bB #[I F 0,bE 70 (I F z5)])) w5):=Aa (by rw[<-u.o];refine aK (aK ⟨v.o,(by have:=c3.o;omega),B,c1.o,aN ⟨z5,rfl,?_⟩⟩);rw[aG,b4.o,b3.o];exact hc.o);clear hc b0;go_wp2;exact Q.o
  ·refine Aa ?_;have d6:Hx L H D (IV st i pq pd) w5:=by
    rcases hc.o with⟨_,_,q,_⟩|⟨_,_,_,_,_,_,_,⟨_,q,_⟩|⟨_,_,q⟩⟩
    ·cases q
    ·cases q
    ·exact q
   obtain⟨c85,g9⟩:=d6.ar81 hi;rw[show(IV st i pq pd).ar i=st.ar i+1 from Ae _ _ _,R.o]at c85;have Q:Hid (Post (aw (bB #[I F (ar+1),bl])) w5):=Aa (by
    rw[<-u.o];refine aK (aK ⟨v.o,(by have:=c3.o;omega),B,c1.o,aK ⟨?_,?_⟩⟩)
    ·rw[aG,R.o]
    ·rw[aG,b4.o,b3.o];exact hc.o);clear hc b0 d6;go_wp2;exact Q.o
structure HW where
 rs:D3
 ns:List Nm
 d:Dk
 chs:List Ch
 N:Nat
 torn:Int
 H:Nat
def HW.st(h:HW):BG:=MD h.1 h.2 h.N h.4.length h.6
structure HOk(h:HW)(k i p:Nat):Prop where
 inv:Inv h.1 h.2 h.d h.4 i p
 id:h.1.3=(k:Int)
 nb:h.N<=p+BA h.4
 ib:i<=130
 pb:p<=130
def CE(h:HW):Int:=if h.1.9=ac then 6 else if 300<=h.4.length then 4 else if h.d.2=ac/\h.d.3=0 then 14 else 0
def HW.wr(h:HW)(c:Ch)(rs':D3)(ns':List Nm)(n:Nat):HW:=
 if CE h=0 then{h with rs:=rs',ns:=ns',d:=Tg h.d h.4.length c,chs:=h.4++[c],N:=h.N+n}
 else if CE h=14 then{h with rs:={h.1 with down:=ac},d:=Ze h.d h.4.length c h.6}else h
theorem HW.wr_yes{h:HW}{c:Ch}{rs':D3}{ns':List Nm}{n:Nat}(e:CE h=0):h.wr c rs' ns' n={h with rs:=rs',ns:=ns',d:=Tg h.d h.4.length c,chs:=h.4++[c],N:=h.N+n}:=by unfold HW.wr;rw[if_pos e]
theorem HW.wr_no{h:HW}{c:Ch}{rs':D3}{ns':List Nm}{n:Nat}(e:CE h≠0)(a:CE h≠14):h.wr c rs' ns' n=h:=by unfold HW.wr;rw[if_neg e,if_neg a]
theorem HW.wr_torn{h:HW}{c:Ch}{rs':D3}{ns':List Nm}{n:Nat}(e:CE h=14):h.wr c rs' ns' n={h with rs:={h.1 with down:=ac},d:=Ze h.d h.4.length c h.6}:=by unfold HW.wr;rw[if_neg O,if_pos e]
theorem HW.wr_H(h:HW)(c:Ch)(rs':D3)(ns':List Nm)(n:Nat):(h.wr c rs' ns' n).H=h.H/\h.4.length<=(h.wr c rs' ns' n).4.length:=by
 unfold HW.wr;split
 ·exact⟨rfl,by show _<=(h.4++[c]).length;rw[ak];omega⟩
 ·split
  ·exact⟨rfl,au _⟩
  ·exact⟨rfl,au _⟩
theorem J1{h:HW}(e:CE h=0):h.1.9=aj/\h.4.length<300/\¬(h.d.2=ac/\h.d.3=0):=by
 unfold CE at e;split at e
 ·cases e
 ·rename_i h1;split at e
  ·cases e
  ·rename_i h2;split at e
   ·cases e
   ·rename_i h3;exact⟨by simpa using h1,O,h3⟩
theorem Vj{h:HW}(e:CE h=14):h.4.length<300:=by
 unfold CE at e;split at e
 ·omega
 ·split at e
  ·omega
  ·omega
section
variable{L:Nat->Prop}{D:DP}{h:HW}{c:Ch}{W w':aO}{e:Ending}{st':BG}{rs':D3}{ns':List Nm}{n k i p:Nat}
theorem FP(h0:Qz L h.H D h.st c st' h.d W e w')(u:st'=MD rs' ns' (h.N+n) (h.4.length+1) h.6):e=aw (AY (CE h))/\Hx L h.H D (h.wr c rs' ns' n).st w'/\DB w' D (h.wr c rs' ns' n).d/\Only W w' (λx=>¬L x):=by
 subst u;rcases h0 with⟨z,w,rfl,f,j,l,⟨a,rfl⟩|⟨a,m,rfl⟩⟩|⟨a,m,b,d',v,j,l,r⟩
 ·have a:h.1.9=ac:=a;have t:CE h=6:=by unfold CE;rw[if_pos a]
  rw[HW.wr_no O O,t];exact⟨rfl,f,j,l⟩
 ·have a:h.1.9=aj:=a;have m:h.4.length=300:=m;have s:CE h=4:=by unfold CE;rw[if_neg (by rw[a];decide),if_pos O]
  rw[HW.wr_no O O,s];exact⟨rfl,f,j,l⟩
 ·have a:h.1.9=aj:=a;have m:h.4.length<300:=m;rcases v with⟨f1,f2,rfl,rfl⟩|⟨f1,rfl,rfl⟩
  ·rcases r with⟨-,rfl,f⟩|⟨o,-⟩
   ·have g:CE h=14:=by unfold CE;rw[if_neg (by rw[a];decide),if_neg O,if_pos ⟨f1,f2⟩]
    rw[HW.wr_torn g,g];exact⟨rfl,f,j,l⟩
   ·cases o
  ·rcases r with⟨o,-⟩|⟨-,rfl,f⟩
   ·cases o
   ·have q:CE h=0:=by unfold CE;rw[if_neg (by rw[a];decide),if_neg O,if_neg f1]
    rw[HW.wr_yes q,q];refine⟨rfl,?_,j,l⟩;show Hx L h.H D (MD rs' ns' (h.N+n) (h.4++[c]).length h.6) w';rw[ak,ao];exact f
theorem HOk.next(h0:HOk h k i p)(a:i<130)(b:p<130):HOk h k (i+1) (p+1):=⟨h0.1.next,h0.2,by have:=h0.3;omega,O,O⟩
theorem HOk.wr(h0:HOk h k i p){a:Nat}(hc:c.ok)(g:rs'.3=h.1.3)(o:n<=c.5.length+c.6.length+c.7.length)(m:i<=a)(f:a<=130)(l:CE h=0->Inv rs' ns' (Tg h.d h.4.length c) (h.4++[c]) a p)(j:CE h≠0->∀{rs ns d chs},Inv rs ns d chs i p->Inv rs ns d chs a p):HOk (h.wr c rs' ns' n) k a p:=by
 by_cases e:CE h=0
 ·rw[HW.wr_yes e];refine⟨l e,g.trans h0.2,?_,f,h0.5⟩;have:=h0.3;show h.N+n<=p+BA (h.4++[c]);rw[Cu];omega
 ·by_cases b:CE h=14
  ·rw[HW.wr_torn b];exact⟨j e (h0.1.downed hc (Vj b) h.6),h0.2,h0.3,f,h0.5⟩
  ·rw[HW.wr_no e b];exact⟨j e h0.1,h0.2,h0.3,f,h0.5⟩
theorem HOk.len(h0:HOk h k i p):∀l,(h.1.Q l).length<=780:=λl=>by have:=h0.1.la l;have:=h0.4;omega
theorem HOk.ybd(h0:HOk h k i p):(∀j,0<=h.1.7 j/\h.1.7 j<=300)/\(∀j,0<=h.1.8 j/\h.1.8 j<=300):=by have g:=Oc h.4 (λc hc=>(h0.1.1.1 c hc).8.1);have hk:=h0.1.1.5.1;rw[<-h0.1.pm,<-h0.1.pr];exact⟨λj=>by have:=g.3 j;omega,λj=>by have:=g.5 j;omega⟩
theorem HOk.big(h0:HOk h k i p):h.N<=1100/\BA h.4<=900:=by have h1:=h0.3;have h2:=h0.1.19;have a:=h0.4;have b:=h0.5;omega
end
def HW.anew(h:HW)(a:Nat):HW:={h with rs:=PD h.1,N:=BA h.4,torn:=-1,H:=a}
theorem HOk.anew{h:HW}{k i p:Nat}(h0:HOk h k i p)(a:Nat):HOk (h.anew a) k i p/\Ck h.1.3 h.4=(h.anew a).st:=⟨⟨h0.1.anew.1,h0.2,by show BA h.4<=p+BA h.4;omega,h0.4,h0.5⟩,h0.1.anew.2⟩
def HW.cut(h:HW)(n:Int):HW:={h with d:=h.d.cut n}
theorem HOk.cut{h:HW}{k i p:Nat}(h0:HOk h k i p){n:Int}(a:n<=9223372036854775807):HOk (h.cut n) k i p:=⟨h0.1.cut n a,h0.2,h0.3,h0.4,h0.5⟩
end
end Go.Proofs.YtgkcfpbndgfdlaaGreatDoor
