import Derived.Test.YtkkallehdijiaaaGreatDoorZDkHe
import Derived.Lib.SlKeysI
import Derived.Deep.LoopGhost
set_option linter.all false
set_option maxHeartbeats 0
set_option maxRecDepth 99999
open Go.IntKind renaming i64->F,wrap_i64->bi
open Go.Value renaming string->Z,int->I,pointer->Y,slice->ai,bool->al,nilIface->aE,tuple->aR,iface->aU,agg->ba,map->bb
open Option renaming none->J,some->G,toList_some->aS
open Classical renaming propDecidable->E
open List renaming setIfInBounds_toArray->C,set_cons_succ->af,set_cons_zero->ag,mem_of_getElem?->aB,getElem?_eq_getElem->aH,mem_singleton->aI,mem_append->aP,take_add_one->aX,take_of_length_le->aY,length_singleton->aZ,length_append->bg
open Go.Proofs.Tryz renaming prog->aa,underlying3->aC,ntmps168->aL,func168->aQ,underlying99->aV,underlying312->bc,underlying315->bd,underlying9->bj
open Go.RowKit renaming Below->ab,run_makeMap->bo
open Go.RowKit.Below renaming refl->ac,heap_setCell->be,heap_alloc->bk
open Go.Ending renaming returned->ae
open Array renaming getElem?_eq_some_iff->ah
open Go.AllReadyH renaming cons->aj,nil->ak
open Go renaming wpAnyH_ready->am,World->au,wp_region_held_drew->av,maxLen->az,wpAnyH_done->aG,Calls->aN,unitElem_mk->bp,Value->br
open Nat renaming le_refl->an,lt_of_lt_of_le->aJ,zero_le->bl,le_trans->bm,le_succ->bq
open Bool renaming false->ao,true->aw,and_eq_true->bh
open Go.Calls renaming mono->ax
open Int renaming toNat_natCast->ay
open Go.Act renaming put->aA
open Go.RowKit.Hid renaming out->aD
open Go.Obj renaming cells->aF,map->bn
open Go.Instr renaming lookup->aK,mapUpdate->aO
open Or renaming inr->aM,inl->aT
open Go.World renaming ownsRow_nil->aW,ownsMap_made->bf
namespace Go.Proofs.YtkkallehdijiaaaGreatDoor
section
open Go.RowKit Go.Maps
theorem Q1t:Keyed aa 3:=int_keyed aC
theorem Qs{i:Int}(a:0<=i)(b:i<=1099511627776):(Lit.int F i).wf=aw:=by
 simp only[Lit.wf,bh,decide_eq_true_eq];have e1:F.min=-9223372036854775808:=by decide+kernel
 have e2:F.max=9223372036854775807:=by decide+kernel
 rw[e1,e2];omega
def J7(id:Int)(x:Mg):Bool:=right x&&decide (x.5=id)&&!decide (x.1%4=id)
theorem Zh(w:au):(zeroValue 313).run aa w=.ok (ba #[]) w:=K
theorem Q1E(w:au):(zeroValue 3).run aa w=.ok (I F 0) w:=K
def SetI(w:au)(B n:Nat)(T:Int->Prop):Prop:=∃D:DataW Unit,w.ownsMap aa 3 unitElem B n D/\∀i,has D (.int F i)=aw↔T i
theorem SetI.made(w:au):SetI (w.alloc (bn #[] 0)) w.1.size 0 (λ_=>False):=⟨.map [],bf w aa 3 unitElem,λ_=>by simp[has]⟩
theorem SetI.on{w w':au}{B n:Nat}{T:Int->Prop}(h:SetI w B n T)(f:w'.1[B]?=w.1[B]?):SetI w' B n T:=by obtain⟨D,⟨b,a,c,d⟩,e⟩:=h;exact⟨D,⟨b,a,f.trans c,d⟩,e⟩
theorem SetI.lt{w:au}{B n:Nat}{T:Int->Prop}(h:SetI w B n T):B<w.1.size:=by obtain⟨D,a,-⟩:=h;exact a.lt
theorem SetI.cong{w:au}{B n:Nat}{T T':Int->Prop}(h:SetI w B n T)(e:∀i,T i↔T' i):SetI w B n T':=by obtain⟨D,a,b⟩:=h;exact⟨D,a,λi=>(b i).trans (e i)⟩
theorem SetI.look{w:au}{B n:Nat}{T:Int->Prop}(h:SetI w B n T){i:Int}(c:0<=i)(d:i<=1099511627776):∃b,(b=aw↔T i)/\(aK 312 (bb (G B)) (I F i) aw).run aa w=.ok (aR #[ba #[],al b]) w:=by obtain⟨D,f,e⟩:=h;obtain⟨v,ps,a,hv⟩:=f.look_ok Q1t bc (Zh w) (zd:=.agg []) (zp:=[]) bp (keyOf_int_mk aC (Qs c d));obtain⟨rfl,-⟩:=unitElem_inv hv;exact⟨_,e i,a⟩
theorem SetI.put{w:au}{B n:Nat}{T:Int->Prop}(h:SetI w B n T)(m:n<az){i:Int}(g:0<=i)(j:i<=1099511627776):∃w',(aO 312 (bb (G B)) (I F i) (ba #[])).run aa w=.ok () w'/\SetI w' B (n+1) (λq=>q=i\/T q)/\w.grownBy w' (G B):=by
 obtain⟨D,f,k⟩:=h;obtain⟨w',b,a,l⟩:=f.update Q1t bc m (keyOf_int_mk aC (Qs g j)) (val:=ba #[]) (d:=.agg []) (ps:=[]) bp;have hk:WideAt.IsKeyLit (.int F i):=trivial;refine⟨w',b,⟨_,a,λq=>?_⟩,l⟩;by_cases e:q=i
 ·subst e;rw[has_put_same f.isMap hk];simp
 ·have c:(Lit.int F q)≠.int F i:=λe2=>e (by injection e2);rw[has_put_other c,k q];simp[e]
def CntM(w:au)(B n:Nat)(c:ByteArray->Nat):Prop:=∃D:DataW Unit,w.ownsMap aa 9 (plainElem aa 3) B n D/\∀s:ByteArray,D.atKey (.string s.1.1) (.lit (.int F 0))=.lit (.int F (c s:Int))
theorem CntM.made(w:au):CntM (w.alloc (bn #[] 0)) w.1.size 0 (λ_=>0):=⟨.map [],bf w aa 9 _,λ_=>rfl⟩
theorem CntM.on{w w':au}{B n:Nat}{c:ByteArray->Nat}(h:CntM w B n c)(g:w'.1[B]?=w.1[B]?):CntM w' B n c:=by obtain⟨D,⟨b,a,d,e⟩,f⟩:=h;exact⟨D,⟨b,a,g.trans d,e⟩,f⟩
theorem CntM.lt{w:au}{B n:Nat}{c:ByteArray->Nat}(h:CntM w B n c):B<w.1.size:=by obtain⟨D,a,-⟩:=h;exact a.lt
theorem CntM.look{w:au}{B n:Nat}{c:ByteArray->Nat}(h:CntM w B n c)(s:ByteArray)(hs:s.size<=az):(aK 315 (bb (G B)) (Z s) ao).run aa w=.ok (I F (c s:Int)) w:=by obtain⟨D,e,d⟩:=h;obtain⟨x,b,a,-⟩:=e.lookup_int Ga bd aC (Q1E w) (WideMaps.keyOf_string_mk bj hs);rw[d s]at a;simp only[DataW.lit.injEq,Lit.int.injEq,true_and]at a;rw[b,<-a]
theorem CntM.put{w:au}{B n:Nat}{c:ByteArray->Nat}(h:CntM w B n c)(j:n<az)(s:ByteArray)(hs:s.size<=az)(k:c s<=1000000):∃w',(aO 315 (bb (G B)) (Z s) (I F ((c s:Int)+1))).run aa w=.ok () w'/\CntM w' B (n+1) (λt=>if t=s then c s+1 else c t)/\w.grownBy w' (G B):=by
 obtain⟨D,f,g⟩:=h;obtain⟨w',b,a,i⟩:=f.update Ga bd j (WideMaps.keyOf_string_mk bj hs) (val:=I F ((c s:Int)+1)) (plainElem_int aC (Qs O O));have hk:WideAt.IsKeyLit (.string s.1.1):=trivial;refine⟨w',b,⟨_,a,λt=>?_⟩,i⟩;by_cases e:t=s
 ·subst e;rw[atKey_put_same f.isMap hk];show _=DataW.lit (Lit.int F ((if t=t then c t+1 else c t:Nat):Int));rw[if_pos rfl];rfl
 ·have d:(Lit.string t.1.1)≠.string s.1.1:=λe2=>e (ByteArray.ext (Array.toList_inj.1 (by injection e2)));rw[atKey_put_other d,g t];show _=DataW.lit (Lit.int F ((if t=s then c s+1 else c t:Nat):Int));rw[if_neg e]
structure Pt where
 c:ByteArray->Nat
 q:List Mg
 d:List Mg
def Fb(ns:List Nm)(A:ByteArray->List Pl)(p:Pt)(m:Mg):Pt:=if EU ns m.4=aw/\(A m.4).length+p.c m.4<20 then⟨λt=>if t=m.4 then p.c m.4+1 else p.c t,p.q++[m],p.d⟩else⟨p.c,p.q,p.d++[m]⟩
def Av(ns:List Nm)(A:ByteArray->List Pl)(l:List Mg):Pt:=l.foldl (Fb ns A) ⟨λ_=>0,[],[]⟩
theorem Ge(ns:List Nm)(A:ByteArray->List Pl)(l:List Mg)(m:Mg):Av ns A (l++[m])=Fb ns A (Av ns A l) m:=by unfold Av;rw[List.foldl_append];rfl
theorem VV(ns:List Nm)(A:ByteArray->List Pl)(p:Pt)(m:Mg):(Fb ns A p m).q.length+(Fb ns A p m).d.length=p.q.length+p.d.length+1/\∀s,(Fb ns A p m).c s<=p.c s+1:=by
 unfold Fb;split
 ·refine⟨oO,λs=>?_⟩;show(if s=m.4 then p.c m.4+1 else p.c s)<=_;split
  ·rename_i e;rw[e];exact an _
  ·omega
 ·exact⟨oO,λs=>bq _⟩
theorem EB(ns:List Nm)(A:ByteArray->List Pl)(l:List Mg):(Av ns A l).q.length+(Av ns A l).d.length=l.length/\∀s,(Av ns A l).c s<=l.length:=by
 suffices h:∀(l:List Mg) (p:Pt),(l.foldl (Fb ns A) p).q.length+(l.foldl (Fb ns A) p).d.length=p.q.length+p.d.length+l.length/\∀s,(l.foldl (Fb ns A) p).c s<=p.c s+l.length by have:=h l ⟨λ_=>0,[],[]⟩;simpa[Av]using this
 intro l;induction l with
 |nil=>intro p;exact⟨rfl,λs=>Nat.le_refl _⟩
 |cons m r ih=>intro p;have a:=VV ns A p m;have b:=ih (Fb ns A p m);rw[List.foldl_cons,List.length_cons];refine⟨O,λs=>?_⟩;have:=a.2 s;have:=b.2 s;omega
theorem CntM.mono{w:au}{B n a:Nat}{c:ByteArray->Nat}(h:CntM w B n c)(e:n<=a):CntM w B a c:=by obtain⟨D,b,d⟩:=h;exact⟨D,b.mono e,d⟩
theorem CntM.obj{w:au}{B n:Nat}{c:ByteArray->Nat}(h:CntM w B n c):∃b a,w.1[B]?=G (bn b a):=by obtain⟨D,⟨b,a,d,e⟩,f⟩:=h;exact⟨b,a,d⟩
structure PtR(w:au)(B j:Nat)(p:Pt)(vq vd:br)(W:au):Prop where
 c:CntM W B j p.c
 q:W.ownsRow w.1.size 95 5 vq p.q.length (AL p.q)
 d:W.ownsRow w.1.size 95 5 vd p.d.length (AL p.d)
 ap:∀c,vq.ownBlock=G c->vd.ownBlock≠G c
 lo:w.1.size<=B
section
variable{w W W':au}{B j:Nat}{p:Pt}{vq vd v5:br}{m:Mg}
theorem PtR.ne(h:PtR w B j p vq vd W){c:Nat}(f:vq.ownBlock=G c\/vd.ownBlock=G c):c<W.1.size/\c≠B:=by obtain⟨g,ck,b⟩:=h.c.obj;have a:∃cs,W.1[c]?=G (aF cs 95 (0,0)):=f.elim (λe=>BK h.q e) (λe=>BK h.d e);obtain⟨cs,a⟩:=a;refine⟨(ah.1 a).1,λe=>?_⟩;subst e;rw[b]at a;cases a
theorem PtR.below(h:PtR w B j p vq vd W)(a:ab W.1.size W W'):PtR w B j p vq vd W':=⟨h.c.on (a.5 _ h.c.lt),An h.q (λc b=>a.5 c (h.ne (aT b)).1),An h.d (λc b=>a.5 c (h.ne (aM b)).1),h.4,h.5⟩
theorem PtR.count(h:PtR w B j p vq vd W)(s:ByteArray)(hs:s.size<=az)(a:p.c s<=1000000)(hj:j<=3000):∃b,(aO 315 (bb (G B)) (Z s) (I F ((p.c s:Int)+1))).run aa W=.ok () b/\PtR w B (j+1) ⟨λt=>if t=s then p.c s+1 else p.c t,p.q,p.d⟩ vq vd b/\W.grownBy b (G B):=by
 obtain⟨b,g,i,f⟩:=h.c.put (by unfold az;omega) s hs a;refine⟨b,g,⟨i,An h.q (λc a=>?_),An h.d (λc a=>?_),h.4,h.5⟩,f⟩
 ·have q:=h.ne (aT a);exact f.5 c q.1 (λe=>by injection e with e;exact q.2 e)
 ·have q:=h.ne (aM a);exact f.5 c q.1 (λe=>by injection e with e;exact q.2 e)
theorem PtR.pushq(h:PtR w B j p vq vd W)(i:W'.ownsRow w.1.size 95 5 v5 (p.q.length+1) (AL p.q++mc m))(f:W.grownBy W' vq.ownBlock)(g:From W vq v5):PtR w B j ⟨p.c,p.q++[m],p.d⟩ v5 vd W':=by
 refine⟨h.c.on (f.5 _ h.c.lt (λe=>?_)),by rw[bg,aZ,Ey];exact i,An h.d (λc a=>f.5 c (h.ne (aM a)).1 (λe=>h.4 c e.symm a)),λc a b=>?_,h.5⟩
 ·exact(h.ne (aT e.symm)).2 rfl
 ·rcases g c a with e|e
  ·exact h.4 c e b
  ·have:=(h.ne (aM b)).1;omega
theorem PtR.pushd(h:PtR w B j p vq vd W)(i:W'.ownsRow w.1.size 95 5 v5 (p.d.length+1) (AL p.d++mc m))(b:W.grownBy W' vd.ownBlock)(g:From W vd v5):PtR w B (j+1) ⟨p.c,p.q,p.d++[m]⟩ vq v5 W':=by
 refine⟨(h.c.on (b.5 _ h.c.lt (λe=>?_))).mono (bq _),An h.q (λc a=>b.5 c (h.ne (aT a)).1 (λe=>h.4 c a e.symm)),by rw[bg,aZ,Ey];exact i,λc a f=>?_,h.5⟩
 ·exact(h.ne (aM e.symm)).2 rfl
 ·rcases g c f with e|e
  ·exact h.4 c a e
  ·have:=(h.ne (aT a)).1;omega
end
theorem Tf(x:Mg)(w:au):(Instr.buildSlice 99 1 #[(0,ba #[I F x.1,I F x.2,Z x.3,Z x.4,I F x.5])]).run aa w=.ok (ai (G ⟨w.1.size,0,J⟩) 1 1) (w.alloc (aF #[I F x.1,I F x.2,Z x.3,Z x.4,I F x.5] 95)):=K
theorem E5{w:au}{b:Array Oper}{rest:List Oper}{o:Oper}{a:Act}{Q:Exit->Act->au->Prop}(c:o.6=J)(y:Operand)(d:o.2=Op.buildSlice 99 1 #[(0,y)])(x:Mg)(g:a.eval y=ba #[I F x.1,I F x.2,Z x.3,Z x.4,I F x.5])(h:wpList aa b Q rest (a.put o.1 (ai (G ⟨w.1.size,0,J⟩) 1 1)) (w.alloc (aF #[I F x.1,I F x.2,Z x.3,Z x.4,I F x.5] 95))):wpList aa b Q (o::rest) a w:=by refine wpList_plain c λK e=>?_;have f:=Tf x w;unfold Oper.wp;simp[execOp,d,g,f,Result.andThen];exact e _ _ h
def Q1H(A:ByteArray->List Pl)(l:List Mg):Prop:=∃j x,l[j]?=G x/\((∃s,B9 (AA (A s)) x.1=aw)\/∃y∈l.take j,y.1=x.1)
open Classical in
def Lv(a:(p:Prop)->Decidable p)(st:Bu)(l:List Mg):Int:=@ite _ (∃x∈l,J7 st.7 x=ao) (a _) 1 (@ite _ (Q1H st.A l) (a _) 9 0)
def Q0Y(st:Bu)(l:List Mg)(w:au)(e:Ending)(w':au):Prop:=((Lv E st l≠0/\e=ae (aU 25 (I F (Lv E st l))))\/(Lv E st l=0/\e=ae aE))/\ab w.1.size w w'
open Classical in
theorem PF(L:Nat->Prop)(H:Nat)(D:DP)(st:Bu)(ms:List Mg)(a:Option Addr)(z kc:Nat)(w:au)(h:Hx L H D st w)(hz:ms.length=z)(i5:z<=3000)(hm:∀(j:Nat) (x:Mg),ms[j]?=G x->∃gb go,a=G ⟨gb,go,J⟩/\gb<w.1.size/\∀k,k<5->w.cell? ⟨gb,go+j*5+k,J⟩=(mc x)[k]?)(e4:∀x∈ms,x.3.size<=az/\x.4.size<=az)(e0:∀s,(st.A s).length<=3000):aN aa 225 #[Y (G ⟨H,0,J⟩),ai a z kc] w (Q0Y st ms w):=by
 generalize hPost:Q0Y st ms w=Post;have a2:=Aa hPost;clear hPost;have a1:Hid (Lv E st ms=if∃x∈ms,J7 st.7 x=ao then 1 else if Q1H st.A ms then 9 else 0):=Aa (by unfold Lv;congr);have b9:Hid (∀W er,Lv E st ms=er->er≠0->ab w.1.size w W->Post (ae (aU 25 (I F er))) W):=Aa (λW er X h0 r=>by rw[<-a2.o];exact⟨aT ⟨by rw[X];exact h0,by rw[X]⟩,r⟩);have e8:Hid (∀W,Lv E st ms=0->ab w.1.size w W->Post (ae aE) W):=Aa (λW X r=>by rw[<-a2.o];exact⟨aM ⟨X,rfl⟩,r⟩);have c5:Hid (∀W id,ab w.1.size w W->aN aa 265 #[Y (G ⟨H,0,J⟩),I F id] W λe w'=>(∃b,e=ae (al b)/\Hid (b=aw↔∃s,B9 (AA (st.A s)) id=aw))/\ab W.1.size W w'):=Aa (λW id r=>Q0e L H D st id W (h.below r) e0);obtain⟨d9,f3⟩:w.cell? ⟨H,0,J⟩=G (I F st.7)/\H<w.1.size:=by obtain⟨M,cs,P,up,ut,dv,h1,h2,h3,h4,h5,h6,h7,h8,h9,g8⟩:=h;exact⟨(h1.cell 0).trans h9,(ah.1 h1.here).1⟩
 have c3:Hid (∀W,ab w.1.size w W->W.cell? ⟨H,0,J⟩=G (I F st.7)):=Aa (λW r=>(r.cell (p:=⟨H,0,J⟩) f3).trans d9);have b2:Hid (∀W,ab w.1.size w W->∀(j:Nat) (x:Mg),ms[j]?=G x->∃gb go,a=G ⟨gb,go,J⟩/\gb<w.1.size/\∀k,k<5->W.cell? ⟨gb,go+j*5+k,J⟩=(mc x)[k]?):=Aa (λW r j x hx=>by obtain⟨gb,go,q1,q2,q3⟩:=hm j x hx;exact⟨gb,go,q1,q2,λk hk=>(r.cell (p:=⟨gb,go+j*5+k,J⟩) q2).trans (q3 k hk)⟩);have e7:=Aa e4;have Hz:=Aa hz;clear h hm e4 hz d9 e0;have i3:=@bo aa;go_enter Tryz.func225,Tryz.ntmps225;go_wp2;go_loopw[14] (λv W=>∃j:Nat,j<=z/\v=I F j/\Hid (∀x∈ms.take j,J7 st.7 x=aw)/\ab w.1.size w W) (λv _=>z-(intOf v).toNat);case atStart=>exact⟨0,bl _,rfl,Aa (λx hx=>by rw[List.take_zero]at hx;cases hx),ac _ _⟩
 case round=>
  obtain⟨j,hj,rfl,HOk,r⟩:=hrel;by_cases f7:j<z
  ·obtain⟨x,hx⟩:∃x,ms[j]?=G x:=⟨_,aH (by rw[Hz.o];exact f7)⟩;obtain⟨gb,go,rfl,f5,a6⟩:=b2.o wr r j x hx;obtain⟨d0,d1,d2,d3,d4⟩:=Kg a6;have c0:Hid (ms.take (j+1)=ms.take j++[x]):=Aa (by rw[aX,hx,aS]);obtain⟨g5,g6⟩:=e7.o x (aB hx);have HMem:=Aa (aB hx);obtain⟨c,u⟩:∃c,wr.alloc (aF #[I F x.1,I F x.2,Z x.3,Z x.4,I F x.5] 95)=c:=⟨_,rfl⟩;have l:ab w.1.size w c:=by rw[<-u];exact r.alloc r.4 _
   have c2:Blk c wr.1.size #[I F x.1,I F x.2,Z x.3,Z x.4,I F x.5] 95:=by rw[<-u];exact Blk.new wr _ 95
   have f4:wr.1.size<c.1.size:=(ah.1 c2).1;have m:Hid (∀W,ab c.1.size c W->(W.cell? ⟨wr.1.size,0,J⟩=G (I F x.1)/\W.cell? ⟨wr.1.size,1,J⟩=G (I F x.2)/\W.cell? ⟨wr.1.size,2,J⟩=G (Z x.3)/\W.cell? ⟨wr.1.size,3,J⟩=G (Z x.4)/\W.cell? ⟨wr.1.size,4,J⟩=G (I F x.5)/\W.cell? ⟨H,0,J⟩=G (I F st.7))/\ab c.1.size c W):=Aa (λW hW=>by have q:Blk W wr.1.size #[I F x.1,I F x.2,Z x.3,Z x.4,I F x.5] 95:=(hW.5 _ f4).trans c2;exact⟨⟨by simpa using q.cell 0,by simpa using q.cell 1,by simpa using q.cell 2,by simpa using q.cell 3,by simpa using q.cell 4,c3.o W (Ab l l.4 hW)⟩,hW⟩);have a3:Hid (∀W,ab c.1.size c W->aN aa 182 #[ba #[I F x.1,I F x.2,Z x.3,Z x.4,I F x.5]] W λe w'=>e=ae (al (right x))/\ab c.1.size c w'):=Aa (λW hW=>(FH x W g5 g6).mono (λe w' q=>⟨q.1,Ab hW hW.4 q.2⟩));have c4:Hid (∀W,0<=x.1->x.1<=1099511627776->ab c.1.size c W->aN aa 264 #[Y (G ⟨H,0,J⟩),I F x.1] W λe w'=>e=ae (al (decide (x.1%4=st.7)))/\ab c.1.size c w'):=Aa (λW h0 h1 hW=>(Sf H st.7 x.1 W (c3.o W (Ab l l.4 hW)) h0 h1).mono (λe w' q=>⟨q.1,by rw[<-q.2];exact hW⟩));obtain⟨⟨y0,y1,y2,y3,y4,r0⟩,g9⟩:=m.o c (ac _ _);have V:Hid (J7 st.7 x=(right x&&decide (x.5=st.7)&&!decide (x.1%4=st.7))):=Aa rfl;have c6:Hid (right x=aw->0<=x.1/\x.1<=1099511627776):=Aa (λh=>by simp[right,KR]at h;omega);have R:Hid (J7 st.7 x=ao->∀W,ab c.1.size c W->Post (ae (aU 25 (I F 1))) W):=Aa (λhf W hW=>b9.o W 1 (by rw[a1.o,if_pos ⟨x,HMem.o,hf⟩]) oD (Ab l l.4 hW));have b3:Hid (J7 st.7 x=aw->∀y∈ms.take (j+1),J7 st.7 y=aw):=Aa (λhf y B=>by
    rw[c0.o]at B;rcases aP.1 B with B|B
    ·exact HOk.o y B
    ·rw[aI]at B;rw[B];exact hf);generalize J7 st.7 x=ok at V R b3;obtain⟨rb,e9⟩:∃b,Hid (right x=b):=⟨_,rfl⟩;rw[e9.o]at a3 V c6;clear a6 hx c2;go_wp2;cases rb
   ·have Q:ok=ao:=by rw[V.o];rfl
    subst Q;refine av (S:=(λW=>(W.cell? ⟨wr.1.size,0,J⟩=G (I F x.1)/\W.cell? ⟨wr.1.size,1,J⟩=G (I F x.2)/\W.cell? ⟨wr.1.size,2,J⟩=G (Z x.3)/\W.cell? ⟨wr.1.size,3,J⟩=G (Z x.4)/\W.cell? ⟨wr.1.size,4,J⟩=G (I F x.5)/\W.cell? ⟨H,0,J⟩=G (I F st.7))/\ab c.1.size c W)) K (m.o _ (ac _ _).drew) (λhHeld=>?_);refine tr 0 18 (ba #[I F x.1,I F x.2,Z x.3,Z x.4,I F x.5]) ?_ ?_
    ·rintro W ⟨⟨z0,U,z2,z3,z4,t0⟩,-⟩;go_simp
    refine am (rs:=[1]) K oS ?_;refine aj rfl (λK t=>?_) ak;go_simp;refine ax (a3.o _ (ac _ _).drew) ?_;rintro e w5 ⟨rfl,d⟩;dsimp only;refine t.out _ _ (m.o _ d) (λhHeld=>?_);clear t K;try simp only[aA,C,ag,af]
    refine tk 2 20 (al aw) ?_;refine tk 3 21 (al aw) ?_;refine sk 4 22 ?_;refine sk 5 23 ?_;refine sk 6 24 ?_;refine sk 7 25 ?_;refine sk 8 26 ?_;refine sk 9 27 ?_;refine sk 10 28 ?_;refine tk 11 29 (al aw) ?_;refine tk 12 30 (al aw) ?_;refine sk 13 31 ?_;refine sk 14 32 ?_;refine sk 15 33 ?_;refine sk 16 34 ?_;refine tk 17 35 (al aw) ?_;refine aG K ?_ _;have HF:=Aa (R.o rfl w5 d);go_wp2;exact HF.o
   ·obtain⟨a7,a8⟩:=c6.o rfl;by_cases N:x.5=st.7
    ·by_cases h4:x.1%4=st.7
     ·have Q:ok=ao:=by rw[V.o];simp[N,h4]
      subst Q;have Hh:=Aa N;have H4:=Aa h4;clear N h4;refine av (S:=(λW=>(W.cell? ⟨wr.1.size,0,J⟩=G (I F x.1)/\W.cell? ⟨wr.1.size,1,J⟩=G (I F x.2)/\W.cell? ⟨wr.1.size,2,J⟩=G (Z x.3)/\W.cell? ⟨wr.1.size,3,J⟩=G (Z x.4)/\W.cell? ⟨wr.1.size,4,J⟩=G (I F x.5)/\W.cell? ⟨H,0,J⟩=G (I F st.7))/\ab c.1.size c W)) K (m.o _ (ac _ _).drew) (λhHeld=>?_);refine tr 0 18 (ba #[I F x.1,I F x.2,Z x.3,Z x.4,I F x.5]) ?_ ?_
      ·rintro W ⟨⟨z0,U,z2,z3,z4,t0⟩,-⟩;go_simp
      refine am (rs:=[1]) K oS ?_;refine aj rfl (λK t=>?_) ak;go_simp;refine ax (a3.o _ (ac _ _).drew) ?_;rintro e w5 ⟨rfl,d⟩;dsimp only;refine t.out _ _ (m.o _ d) (λhHeld=>?_);clear t K;try simp only[aA,C,ag,af]
      refine tk 2 20 (al ao) ?_;refine tk 3 21 (al ao) ?_;refine tk 4 22 (Y (G ⟨wr.1.size,4,J⟩)) ?_;refine tr 5 23 (I F x.5) ?_ ?_
      ·rintro W ⟨⟨z0,U,z2,z3,z4,t0⟩,-⟩;go_simp
      refine tk 6 24 (Y (G ⟨H,0,J⟩)) ?_;refine tk 7 25 (Y (G ⟨H,0,J⟩)) ?_;refine tk 8 26 (Y (G ⟨H,0,J⟩)) ?_;refine tr 9 27 (I F st.7) ?_ ?_
      ·rintro W ⟨⟨z0,U,z2,z3,z4,t0⟩,-⟩;go_simp
      refine tr 10 28 (al ao) ?_ ?_
      ·rintro W ⟨⟨z0,U,z2,z3,z4,t0⟩,-⟩;have N:=Hh.o;simp[go_sem,N]
      refine tk 11 29 (al ao) ?_;refine tk 12 30 (al ao) ?_;refine tk 13 31 (Y (G ⟨H,0,J⟩)) ?_;refine tk 14 32 (Y (G ⟨wr.1.size,0,J⟩)) ?_;refine tr 15 33 (I F x.1) ?_ ?_
      ·rintro W ⟨⟨z0,U,z2,z3,z4,t0⟩,-⟩;go_simp
      refine am (rs:=[16]) K oS ?_;refine aj rfl (λK t=>?_) ak;go_simp;refine ax (c4.o _ a7 a8 d) ?_;rintro e w6 ⟨rfl,f⟩;dsimp only;refine t.out _ _ (m.o _ f) (λhHeld=>?_);clear t K;try simp only[aA,C,ag,af]
      rw[show decide (x.1%4=st.7)=aw from by simp[H4.o]];refine tk 17 35 (al aw) ?_;refine aG K ?_ _;have HF:=Aa (R.o rfl w6 f);go_wp2;exact HF.o
     ·have Q:ok=aw:=by rw[V.o];simp[N,h4]
      subst Q;have Hh:=Aa N;have H4:=Aa h4;clear N h4;refine av (S:=(λW=>(W.cell? ⟨wr.1.size,0,J⟩=G (I F x.1)/\W.cell? ⟨wr.1.size,1,J⟩=G (I F x.2)/\W.cell? ⟨wr.1.size,2,J⟩=G (Z x.3)/\W.cell? ⟨wr.1.size,3,J⟩=G (Z x.4)/\W.cell? ⟨wr.1.size,4,J⟩=G (I F x.5)/\W.cell? ⟨H,0,J⟩=G (I F st.7))/\ab c.1.size c W)) K (m.o _ (ac _ _).drew) (λhHeld=>?_);refine tr 0 18 (ba #[I F x.1,I F x.2,Z x.3,Z x.4,I F x.5]) ?_ ?_
      ·rintro W ⟨⟨z0,U,z2,z3,z4,t0⟩,-⟩;go_simp
      refine am (rs:=[1]) K oS ?_;refine aj rfl (λK t=>?_) ak;go_simp;refine ax (a3.o _ (ac _ _).drew) ?_;rintro e w5 ⟨rfl,d⟩;dsimp only;refine t.out _ _ (m.o _ d) (λhHeld=>?_);clear t K;try simp only[aA,C,ag,af]
      refine tk 2 20 (al ao) ?_;refine tk 3 21 (al ao) ?_;refine tk 4 22 (Y (G ⟨wr.1.size,4,J⟩)) ?_;refine tr 5 23 (I F x.5) ?_ ?_
      ·rintro W ⟨⟨z0,U,z2,z3,z4,t0⟩,-⟩;go_simp
      refine tk 6 24 (Y (G ⟨H,0,J⟩)) ?_;refine tk 7 25 (Y (G ⟨H,0,J⟩)) ?_;refine tk 8 26 (Y (G ⟨H,0,J⟩)) ?_;refine tr 9 27 (I F st.7) ?_ ?_
      ·rintro W ⟨⟨z0,U,z2,z3,z4,t0⟩,-⟩;go_simp
      refine tr 10 28 (al ao) ?_ ?_
      ·rintro W ⟨⟨z0,U,z2,z3,z4,t0⟩,-⟩;have N:=Hh.o;simp[go_sem,N]
      refine tk 11 29 (al ao) ?_;refine tk 12 30 (al ao) ?_;refine tk 13 31 (Y (G ⟨H,0,J⟩)) ?_;refine tk 14 32 (Y (G ⟨wr.1.size,0,J⟩)) ?_;refine tr 15 33 (I F x.1) ?_ ?_
      ·rintro W ⟨⟨z0,U,z2,z3,z4,t0⟩,-⟩;go_simp
      refine am (rs:=[16]) K oS ?_;refine aj rfl (λK t=>?_) ak;go_simp;refine ax (c4.o _ a7 a8 d) ?_;rintro e w6 ⟨rfl,f⟩;dsimp only;refine t.out _ _ (m.o _ f) (λhHeld=>?_);clear t K;try simp only[aA,C,ag,af]
      rw[show decide (x.1%4=st.7)=ao from by simp[H4.o]];refine tk 17 35 (al ao) ?_;refine aG K ?_ _;have e5:=Ab l l.4 f;go_wp2;go_roundw;case rel=>exact⟨j+1,O,by go_num,Aa (b3.o rfl),e5⟩
      case measure=>simp[intOf];omega
    ·have Q:ok=ao:=by rw[V.o];simp[N]
     subst Q;have f6:(x.5==st.7)=ao:=by simpa using N
     refine av (S:=(λW=>(W.cell? ⟨wr.1.size,0,J⟩=G (I F x.1)/\W.cell? ⟨wr.1.size,1,J⟩=G (I F x.2)/\W.cell? ⟨wr.1.size,2,J⟩=G (Z x.3)/\W.cell? ⟨wr.1.size,3,J⟩=G (Z x.4)/\W.cell? ⟨wr.1.size,4,J⟩=G (I F x.5)/\W.cell? ⟨H,0,J⟩=G (I F st.7))/\ab c.1.size c W)) K (m.o _ (ac _ _).drew) (λhHeld=>?_);refine tr 0 18 (ba #[I F x.1,I F x.2,Z x.3,Z x.4,I F x.5]) ?_ ?_
     ·rintro W ⟨⟨z0,U,z2,z3,z4,t0⟩,-⟩;go_simp
     refine am (rs:=[1]) K oS ?_;refine aj rfl (λK t=>?_) ak;go_simp;refine ax (a3.o _ (ac _ _).drew) ?_;rintro e w5 ⟨rfl,d⟩;dsimp only;refine t.out _ _ (m.o _ d) (λhHeld=>?_);clear t K;try simp only[aA,C,ag,af]
     refine tk 2 20 (al ao) ?_;refine tk 3 21 (al ao) ?_;refine tk 4 22 (Y (G ⟨wr.1.size,4,J⟩)) ?_;refine tr 5 23 (I F x.5) ?_ ?_
     ·rintro W ⟨⟨z0,U,z2,z3,z4,t0⟩,-⟩;go_simp
     refine tk 6 24 (Y (G ⟨H,0,J⟩)) ?_;refine tk 7 25 (Y (G ⟨H,0,J⟩)) ?_;refine tk 8 26 (Y (G ⟨H,0,J⟩)) ?_;refine tr 9 27 (I F st.7) ?_ ?_
     ·rintro W ⟨⟨z0,U,z2,z3,z4,t0⟩,-⟩;go_simp
     refine tr 10 28 (al aw) ?_ ?_
     ·rintro W ⟨⟨z0,U,z2,z3,z4,t0⟩,-⟩;simp[go_sem,f6,N]
     refine tk 11 29 (al aw) ?_;refine tk 12 30 (al aw) ?_;refine sk 13 31 ?_;refine sk 14 32 ?_;refine sk 15 33 ?_;refine sk 16 34 ?_;refine tk 17 35 (al aw) ?_;refine aG K ?_ _;have HF:=Aa (R.o rfl w5 d);go_wp2;exact HF.o
  ·obtain rfl:j=z:=O;obtain⟨w7,f9⟩:∃q,q=wr:=⟨_,rfl⟩;subst f9;rw[show ms.take j=ms from aY (by rw[Hz.o];exact an _)]at HOk;rw[if_neg (by rintro⟨x,hx,hf⟩;rw[HOk.o x hx]at hf;cases hf)]at a1;have n:ab w.1.size w (w7.alloc (bn #[] 0)):=r.alloc r.4 _;have c7:Hid (SetI (w7.alloc (bn #[] 0)) w7.1.size 0 (λq=>∃y∈ms.take 0,y.1=q)):=Aa ((SetI.made w7).cong (λq=>oS));have g7:w.1.size<=w7.1.size:=r.4;go_wp2;go_loopw[41] (λv W=>∃g:Nat,g<=j/\v=I F g/\Hid (SetI W w7.1.size g (λq=>∃y∈ms.take g,y.1=q))/\Hid (∀i x,i<g->ms[i]?=G x->¬((∃s,B9 (AA (st.A s)) x.1=aw)\/∃y∈ms.take i,y.1=x.1))/\ab w.1.size w W) (λv _=>j-(intOf v).toNat);case atStart=>exact⟨0,bl _,rfl,c7,Aa (λi x hi=>O),n⟩
   case round=>
    clear c7 n r;obtain⟨g,i1,rfl,c8,c9,a9⟩:=hrel;by_cases e3:g<j
    ·obtain⟨x,hx⟩:∃x,ms[g]?=G x:=⟨_,aH (by rw[Hz.o];exact e3)⟩;obtain⟨gb,go,rfl,f5,a6⟩:=b2.o wr a9 g x hx;obtain⟨d0,d1,d2,d3,d4⟩:=Kg a6;have c0:Hid (ms.take (g+1)=ms.take g++[x]):=Aa (by rw[aX,hx,aS]);have c1:=Aa hx;have f8:0<=x.1/\x.1<=1099511627776:=by have q:=HOk.o x (aB hx);simp[J7,right,KR]at q;omega
     obtain⟨a7,a8⟩:=f8;obtain⟨c,u⟩:∃c,wr.alloc (aF #[I F x.1,I F x.2,Z x.3,Z x.4,I F x.5] 95)=c:=⟨_,rfl⟩;obtain⟨W4,a5⟩:∃W4,c.alloc (aF #[] 313)=W4:=⟨_,rfl⟩;have l:ab w.1.size w c:=by rw[<-u];exact a9.alloc a9.4 _
     have n:ab w.1.size w W4:=by rw[<-a5];exact l.alloc l.4 _
     have a4:SetI c w7.1.size g (λq=>∃y∈ms.take g,y.1=q):=by rw[<-u];exact c8.o.on (bk _ _ _ c8.o.lt)
     have b1:SetI W4 w7.1.size g (λq=>∃y∈ms.take g,y.1=q):=by rw[<-a5];exact a4.on (bk _ _ _ a4.lt)
     have b0:c.cell? ⟨wr.1.size,0,J⟩=G (I F x.1):=by rw[<-u];simp
     have g0:wr.1.size<c.1.size:=by rw[<-u];simp
     have b4:W4.cell? ⟨wr.1.size,0,J⟩=G (I F x.1):=by rw[<-a5,World.cell?_alloc_lt _ _ ⟨wr.1.size,0,J⟩ g0];exact b0
     obtain⟨lb,b6,i2⟩:=a4.look a7 a8;have d6:=Aa b6;clear b6;have b8:=Aa (c5.o W4 x.1 n);clear a6 hx;cases lb
     ·go_wp2_with(go_at_call 265;go_must(refine b8.o.mono ?_);rintro e w5 ⟨⟨b,rfl,hb⟩,d⟩;refine aD ?_);refine Aa ?_;have f:ab w.1.size w w5:=Ab n n.4 d;cases b
      ·have b7:¬((∃s,B9 (AA (st.A s)) x.1=aw)\/∃y∈ms.take g,y.1=x.1):=by
        rintro(q|q)
        ·exact absurd (hb.o.2 q) oD
        ·exact absurd (d6.o.2 q) oD
       have d7:SetI w5 w7.1.size g (λq=>∃y∈ms.take g,y.1=q):=b1.on (d.5 _ b1.lt);obtain⟨w9,i4,d8,a0⟩:=d7.put (by unfold az;omega) a7 a8;have b5:w5.cell? ⟨wr.1.size,0,J⟩=G (I F x.1):=(d.cell (p:=⟨wr.1.size,0,J⟩) (by rw[<-a5];simp;omega)).trans b4;have e6:Hid (SetI w9 w7.1.size (g+1) (λq=>∃y∈ms.take (g+1),y.1=q)):=Aa (d8.cong (λq=>by
        rw[c0.o];constructor
        ·rintro(rfl|⟨y,B,h2⟩)
         ·exact⟨x,oS,rfl⟩
         ·exact⟨y,List.mem_append_left _ B,h2⟩
        ·rintro⟨y,B,h2⟩;rcases aP.1 B with B|B
         ·exact aM ⟨y,B,h2⟩
         ·rw[aI]at B;subst B;exact aT h2.symm));have d5:Hid (∀i x,i<g+1->ms[i]?=G x->¬((∃s,B9 (AA (st.A s)) x.1=aw)\/∃y∈ms.take i,y.1=x.1)):=Aa (λi x hi hx=>by
        by_cases e:i=g
        ·subst e;obtain rfl:=Option.some.inj (c1.o.symm.trans hx);exact b7
        ·exact c9.o i x O hx);have f0:ab w.1.size w w9:=⟨a0.1.trans f.1,a0.2.trans f.2,a0.3.trans f.3,bm f.4 a0.4,λk hk=>(a0.5 k (aJ hk f.4) (λe=>by injection e with e;omega)).trans (f.5 k hk)⟩;clear d8 a0 a4 b1 d7 b7 l n d f a5 u b8;go_wp2;go_roundw;case rel=>exact⟨g+1,O,by go_num,e6,d5,f0⟩
       case measure=>simp[intOf];omega
      ·have X:Lv E st ms=9:=by rw[a1.o,if_pos ⟨g,x,c1.o,aT (hb.o.1 rfl)⟩]
       have HF:=Aa (b9.o w5 9 X oD f);clear X;go_wp2;exact HF.o
     ·have X:Lv E st ms=9:=by rw[a1.o,if_pos ⟨g,x,c1.o,aM (d6.o.1 rfl)⟩]
      have HF:=Aa (b9.o W4 9 X oD n);clear X b1 a4 b8 n;go_wp2;exact HF.o
    ·obtain rfl:g=j:=O;have X:Lv E st ms=0:=by rw[a1.o,if_neg (by rintro⟨i0,x,hx,N⟩;exact c9.o i0 x (by rw[<-Hz.o];exact(List.getElem?_eq_some_iff.1 hx).1) hx N)]
     have HF:=Aa (e8.o wr X a9);clear X;go_wp2;exact HF.o
theorem St(L:Nat->Prop)(H:Nat)(D:DP)(st:Bu)(ms:List Mg)(a:Option Addr)(z kc:Nat)(w:au)(h:Hx L H D st w)(b8:As st.6)(hz:ms.length=z)(k0:z<=3000)(hm:∀(j:Nat) (x:Mg),ms[j]?=G x->∃gb go,a=G ⟨gb,go,J⟩/\gb<w.1.size/\∀k,k<5->w.cell? ⟨gb,go+j*5+k,J⟩=(mc x)[k]?)(f5:∀x∈ms,x.3.size<=az/\x.4.size<=az)(f3:∀s,(st.A s).length<=3000):aN aa 226 #[Y (G ⟨H,0,J⟩),ai a z kc] w λe w'=>∃vq vd,e=ae (aR #[vq,vd])/\Hid (w'.ownsRow w.1.size 95 5 vq (Av st.6 st.A ms).q.length (AL (Av st.6 st.A ms).q)/\w'.ownsRow w.1.size 95 5 vd (Av st.6 st.A ms).d.length (AL (Av st.6 st.A ms).d)/\ab w.1.size w w'):=by
 obtain⟨M,cs,P,up,ut,dv,h1,h2,h3,h4,h5,h6,h7,h8,h9,i0,i1,i2,i3⟩:=h;have j3:H<w.1.size:=(ah.1 h1.here).1;obtain⟨pre,post,rest,hc,i8,i7⟩:=h7;have c7:NB w H 140 6 pre post st.6 rest:=⟨by rw[<-hc];exact h1.here,i8,i7⟩;have g0:Hid (∀(q:ByteArray) W,ab w.1.size w W->aN aa 173 #[Y (G ⟨H,6,J⟩),Z q] W λe w'=>e=ae (al (EU st.6 q))/\ab W.1.size W w'):=Aa (λq W hB=>Ib H 140 6 pre post st.6 rest q W (c7.below hB c7.lt) b8);obtain⟨n,f,vs,ws,g1,g2,g3⟩:=h1;have HQ:Hid (∀(s:ByteArray) W,s.size<=az->ab w.1.size w W->aN aa 119 #[Y (G ⟨H,0,J⟩),Z s] W λe w'=>∃q,e=ae (Y (G ⟨q,0,J⟩))/\Hid (∃v,PQ1 w' q v (AA (st.A s)))/\ab W.1.size W w'):=Aa (λs W hs hB=>by
  have g1:=g1.below hB;refine(Iq H M n cs f s W g1.1.o.1 g1.1.m g1.1.q.1 hs).mono ?_;rintro e w' (⟨q,hq,rfl,rfl⟩|⟨hq,rfl,rfl⟩)
  ·exact⟨q,rfl,Aa ⟨_,g1.1.q.q s q hq⟩,ac _ _⟩
  ·refine⟨_,rfl,Aa ⟨ai J 0 0,?_⟩,(ac _ _).alloc (an _) _⟩;rw[g1.nil hq];exact⟨heap_alloc_new W _,oS,aW _ _ _ _⟩);have g5:Hid (∀(s:ByteArray) q W,Hid (∃v,PQ1 W q v (AA (st.A s)))->aN aa 266 #[Y (G ⟨q,0,J⟩)] W λe w'=>e=ae (I F ((st.A s).length:Int))/\W=w'):=Aa (λs q W hq=>by obtain⟨v,hv⟩:=hq.o;have:=Vz q v (AA (st.A s)) W hv;rw[AX (g1.2 s)]at this;exact this);clear g1 g2 g3 h2 h3 h4 h5 h6 h8 h9 i0 i1 i2 i3 b8 c7 hc;have e5:Hid (∀W,ab w.1.size w W->∀(j:Nat) (x:Mg),ms[j]?=G x->∃gb go,a=G ⟨gb,go,J⟩/\gb<w.1.size/\∀k,k<5->W.cell? ⟨gb,go+j*5+k,J⟩=(mc x)[k]?):=Aa (λW hB j x hx=>by obtain⟨gb,go,q1,q2,q3⟩:=hm j x hx;exact⟨gb,go,q1,q2,λk hk=>(hB.cell (p:=⟨gb,go+j*5+k,J⟩) q2).trans (q3 k hk)⟩);have g6:=Aa f5;have Hz:=Aa hz;have g8:=Aa f3;obtain⟨j0,f0,f6,f7,f8⟩:=Aw F8;have HJ:=Aa f0;have b9:=Aa f6;have c0:=Aa f7;have c1:=Aa f8;clear hm f5 hz f3 f0 f6 f7 f8;have j6:=@bo aa;have g:ab w.1.size w (w.alloc (bn #[] 0)):=(ac _ _).alloc (an _) _;have e3:Hid (PtR w w.1.size 0 (Av st.6 st.A (ms.take 0)) (ai J 0 0) (ai J 0 0) (w.alloc (bn #[] 0))):=Aa ⟨CntM.made w,aW _ _ _ _,aW _ _ _ _,λc hc=>by simp[Value.ownBlock]at hc,an _⟩;go_enter Tryz.func226,Tryz.ntmps226;go_wp2;go_loopw[4,5,12] (λvq vd v W=>∃j:Nat,j<=z/\v=I F j/\Hid (PtR w w.1.size j (Av st.6 st.A (ms.take j)) vq vd W)/\ab w.1.size w W) (λ_ _ v _=>z-(intOf v).toNat);case atStart=>exact⟨0,bl _,rfl,e3,g⟩
 case round=>
  clear e3 g;obtain⟨j,hj,rfl,HR,hB⟩:=hrel;by_cases i6:j<z
  ·obtain⟨x,hx⟩:∃x,ms[j]?=G x:=⟨_,aH (by rw[Hz.o];exact i6)⟩;obtain⟨gb,go,rfl,j5,e8⟩:=e5.o wr hB j x hx;obtain⟨d0,d1,d2,d3,d4⟩:=Kg e8;have b5:Hid (Av st.6 st.A (ms.take (j+1))=Fb st.6 st.A (Av st.6 st.A (ms.take j)) x):=Aa (by rw[aX,hx,aS,Ge]);obtain⟨j9,e0⟩:=g6.o x (aB hx);obtain⟨d8,d7⟩:=EB st.6 st.A (ms.take j);rw[List.length_take]at d8 d7;have d9:=d7 x.4;obtain⟨p,Hp⟩:∃p,Hid (Av st.6 st.A (ms.take j)=p):=⟨_,rfl⟩;rw[Hp.o]at HR b5 d8 d9;obtain⟨l,c9⟩:∃l,wr.alloc (aF #[I F x.1,I F x.2,Z x.3,Z x.4,I F x.5] 95)=l:=⟨_,rfl⟩;have Q:ab w.1.size w l:=by rw[<-c9];exact hB.alloc hB.4 _
   have b6:Blk l wr.1.size #[I F x.1,I F x.2,Z x.3,Z x.4,I F x.5] 95:=by rw[<-c9];exact Blk.new wr _ 95
   have d5:wr.1.size<l.1.size:=(ah.1 b6).1;have e7:PtR w w.1.size j p u4 u5 l:=by rw[<-c9];exact HR.o.below ((ac _ _).alloc (an _) _)
   have b4:=Aa e7;obtain⟨V,a2⟩:∃q,Hid (p.c x.4=q):=⟨_,rfl⟩;rw[a2.o]at d9;have j4:(V:Int)<=3000:=O;have i9:(0:Int)<=V:=O;have c4:Hid (p.q.length<=3000/\p.d.length<=3000):=Aa O;clear d8 d7 d9;have i:Hid (∀W,ab l.1.size l W->(W.cell? ⟨wr.1.size,0,J⟩=G (I F x.1)/\W.cell? ⟨wr.1.size,1,J⟩=G (I F x.2)/\W.cell? ⟨wr.1.size,2,J⟩=G (Z x.3)/\W.cell? ⟨wr.1.size,3,J⟩=G (Z x.4)/\W.cell? ⟨wr.1.size,4,J⟩=G (I F x.5)/\(aK 315 (bb (G w.1.size)) (Z x.4) ao).run aa W=.ok (I F (V:Int)) W)/\ab l.1.size l W):=Aa (λW hW=>by have q:Blk W wr.1.size #[I F x.1,I F x.2,Z x.3,Z x.4,I F x.5] 95:=(hW.5 _ d5).trans b6;have r:=(b4.o.below hW).c.look x.4 e0;rw[a2.o]at r;exact⟨⟨by simpa using q.cell 0,by simpa using q.cell 1,by simpa using q.cell 2,by simpa using q.cell 3,by simpa using q.cell 4,r⟩,hW⟩);have b2:Hid (∀W,ab l.1.size l W->aN aa 173 #[Y (G ⟨H,6,J⟩),Z x.4] W λe w'=>e=ae (al (EU st.6 x.4))/\ab l.1.size l w'):=Aa (λW hW=>(g0.o x.4 W (Ab Q Q.4 hW)).mono (λe w' q=>⟨q.1,Ab hW hW.4 q.2⟩));have e4:Hid (∀W,ab l.1.size l W->aN aa 119 #[Y (G ⟨H,0,J⟩),Z x.4] W λe w'=>∃q,e=ae (Y (G ⟨q,0,J⟩))/\Hid (∃v,PQ1 w' q v (AA (st.A x.4)))/\ab l.1.size l w'):=Aa (λW hW=>(HQ.o x.4 W e0 (Ab Q Q.4 hW)).mono (λe w' q=>by obtain⟨b,q1,q2,q3⟩:=q;exact⟨b,q1,q2,Ab hW hW.4 q3⟩));have c2:=Aa (λq W hq=>g5.o x.4 q W hq);have i5:=g8.o x.4;obtain⟨la,e6⟩:∃q,Hid ((st.A x.4).length=q):=⟨_,rfl⟩;rw[e6.o]at c2 i5;have j2:(la:Int)<=3000:=O;have j1:(0:Int)<=la:=O;have b3:Hid (Fb st.6 st.A p x=if EU st.6 x.4=aw/\la+V<20 then⟨λt=>if t=x.4 then V+1 else p.c t,p.q++[x],p.d⟩else⟨p.c,p.q,p.d++[x]⟩):=Aa (by unfold Fb;rw[e6.o,a2.o]);obtain⟨ob,h0⟩:∃b,Hid (EU st.6 x.4=b):=⟨_,rfl⟩;rw[h0.o]at b2 b3;have f9:Hid (∀W,ab l.1.size l W->∃N,(aO 315 (bb (G w.1.size)) (Z x.4) (I F ((V:Int)+1))).run aa W=.ok () N/\PtR w w.1.size (j+1) ⟨λt=>if t=x.4 then V+1 else p.c t,p.q,p.d⟩ u4 u5 N/\ab w.1.size w N/\N.1.size≥W.1.size/\N.cell? ⟨wr.1.size,0,J⟩=G (I F x.1)/\N.cell? ⟨wr.1.size,1,J⟩=G (I F x.2)/\N.cell? ⟨wr.1.size,2,J⟩=G (Z x.3)/\N.cell? ⟨wr.1.size,3,J⟩=G (Z x.4)/\N.cell? ⟨wr.1.size,4,J⟩=G (I F x.5)):=Aa (λW hW=>by obtain⟨N,q1,q2,q3⟩:=(b4.o.below hW).count x.4 e0 (by rw[a2.o];omega) O;rw[a2.o]at q1 q2;have a3:=Ab Q Q.4 hW;have j8:=hB.4;have q:Blk N wr.1.size #[I F x.1,I F x.2,Z x.3,Z x.4,I F x.5] 95:=(q3.5 _ (aJ d5 hW.4) (λe=>by injection e with e;have:=(HR.o).c.lt;omega)).trans ((hW.5 _ d5).trans b6);exact⟨N,q1,q2,⟨q3.1.trans a3.1,q3.2.trans a3.2,q3.3.trans a3.3,bm a3.4 q3.4,λk hk=>(q3.5 k (aJ hk a3.4) (λe=>by injection e with e;omega)).trans (a3.5 k hk)⟩,q3.4,by simpa using q.cell 0,by simpa using q.cell 1,by simpa using q.cell 2,by simpa using q.cell 3,by simpa using q.cell 4⟩);obtain⟨⟨y0,y1,y2,y3,y4,r0⟩,c6⟩:=i.o l (ac _ _);have b1:=Aa Q;clear e8 hx b6 e7 HR a2;go_wp2;cases ob
   ·as_aux_lemma=>
    refine av (S:=(λW=>(W.cell? ⟨wr.1.size,0,J⟩=G (I F x.1)/\W.cell? ⟨wr.1.size,1,J⟩=G (I F x.2)/\W.cell? ⟨wr.1.size,2,J⟩=G (Z x.3)/\W.cell? ⟨wr.1.size,3,J⟩=G (Z x.4)/\W.cell? ⟨wr.1.size,4,J⟩=G (I F x.5)/\(aK 315 (bb (G w.1.size)) (Z x.4) ao).run aa W=.ok (I F (V:Int)) W)/\ab l.1.size l W)) K (i.o _ (ac _ _).drew) (λhHeld=>?_);refine tk 0 16 (Y (G ⟨H,0,J⟩)) ?_;refine tk 1 17 (Y (G ⟨H,0,J⟩)) ?_;refine tk 2 18 (Y (G ⟨H,6,J⟩)) ?_;refine tk 3 19 (Y (G ⟨wr.1.size,3,J⟩)) ?_;refine tr 4 20 (Z x.4) ?_ ?_
    ·rintro W ⟨⟨z0,z1,z2,z3,z4,t0⟩,-⟩;go_simp
    refine am (rs:=[5]) K oS ?_;refine aj rfl (λK U=>?_) ak;go_simp;refine ax (b2.o _ (ac _ _).drew) ?_;rintro e w5 ⟨rfl,u⟩;dsimp only;refine U.out _ _ (i.o _ u) (λhHeld=>?_);clear U K;try simp only[aA,C,ag,af]
    refine tk 6 22 (al ao) ?_;refine sk 7 23 ?_;refine sk 8 24 ?_;refine sk 9 25 ?_;refine sk 10 26 ?_;refine sk 11 27 ?_;refine sk 12 28 ?_;refine sk 13 29 ?_;refine sk 14 30 ?_;refine sk 15 31 ?_;refine sk 16 32 ?_;refine sk 17 33 ?_;refine tk 18 34 (al ao) ?_;refine aG K ?_ _;have a6:Hid (Av st.6 st.A (ms.take (j+1))=⟨p.c,p.q,p.d++[x]⟩):=Aa (by rw[b5.o,b3.o,if_neg oS]);have a0:=Aa (b4.o.below u);have a4:Hid (ab w.1.size w w5):=Aa (Ab b1.o b1.o.4 u);obtain⟨⟨y0,y1,y2,y3,y4,r0⟩,-⟩:=i.o _ u;obtain⟨ln,y⟩:∃q,Hid (p.d.length=q):=⟨_,rfl⟩;have X:Hid ((w5.alloc (aF #[I F x.1,I F x.2,Z x.3,Z x.4,I F x.5] 95)).ownsRow w.1.size 95 5 u5 ln (AL p.d)):=Aa (by rw[<-y.o];exact a0.o.d.alloc _);have g:ab w.1.size w (w5.alloc (aF #[I F x.1,I F x.2,Z x.3,Z x.4,I F x.5] 95)):=a4.o.alloc a4.o.4 _;have f4:ln<=3000:=by rw[<-y.o];exact c4.o.2
    have a5:=Aa (ES (w:=w5) x);clear Q u c6;go_wp2_with(first|refine E5 rfl (.tmp 45) rfl x rfl ?_|(at_builtin;refine aD ?_));refine Aa ?_;go_wp2_with(at_builtin;go_must(refine B4 rfl _ _ 99 rfl w.1.size 95 j0 _ 5 56 aV HJ.o b9.o c0.o c1.o rfl oD u5 ln _ rfl X.o ⟨w5.1.size,0,J⟩ 1 1 oD (mc x) rfl rfl a5.o (Ek _) (by unfold az;omega) O g.4 ?_));intro v8 N B a1 a8;have c5:ab w.1.size w N:=AJ g X.o a1 g.4 (an _);have c3:Hid (PtR w w.1.size (j+1) (Av st.6 st.A (ms.take (j+1))) u4 v8 N):=Aa (by rw[a6.o];exact(a0.o.below ((ac _ _).alloc (an _) _)).pushd (by rw[y.o];exact B) a1 a8);clear B a1 a8 g;go_wp2;go_roundw;case rel=>exact⟨j+1,O,by go_num,c3,c5⟩
    case measure=>simp[intOf];omega
   ·by_cases a9:la+V<20
    ·as_aux_lemma=>
     have a9:((la:Int)+(V:Int)<20):=O;refine av (S:=(λW=>(W.cell? ⟨wr.1.size,0,J⟩=G (I F x.1)/\W.cell? ⟨wr.1.size,1,J⟩=G (I F x.2)/\W.cell? ⟨wr.1.size,2,J⟩=G (Z x.3)/\W.cell? ⟨wr.1.size,3,J⟩=G (Z x.4)/\W.cell? ⟨wr.1.size,4,J⟩=G (I F x.5)/\(aK 315 (bb (G w.1.size)) (Z x.4) ao).run aa W=.ok (I F (V:Int)) W)/\ab l.1.size l W)) K (i.o _ (ac _ _).drew) (λhHeld=>?_);refine tk 0 16 (Y (G ⟨H,0,J⟩)) ?_;refine tk 1 17 (Y (G ⟨H,0,J⟩)) ?_;refine tk 2 18 (Y (G ⟨H,6,J⟩)) ?_;refine tk 3 19 (Y (G ⟨wr.1.size,3,J⟩)) ?_;refine tr 4 20 (Z x.4) ?_ ?_
     ·rintro W ⟨⟨z0,z1,z2,z3,z4,t0⟩,-⟩;go_simp
     refine am (rs:=[5]) K oS ?_;refine aj rfl (λK U=>?_) ak;go_simp;refine ax (b2.o _ (ac _ _).drew) ?_;rintro e w5 ⟨rfl,u⟩;dsimp only;refine U.out _ _ (i.o _ u) (λhHeld=>?_);clear U K;try simp only[aA,C,ag,af]
     refine tk 6 22 (al aw) ?_;refine tk 7 23 (Y (G ⟨H,0,J⟩)) ?_;refine tk 8 24 (Y (G ⟨wr.1.size,3,J⟩)) ?_;refine tr 9 25 (Z x.4) ?_ ?_
     ·rintro W ⟨⟨z0,z1,z2,z3,z4,t0⟩,-⟩;go_simp
     refine tk 12 28 (bb (G w.1.size)) ?_;refine tk 13 29 (Y (G ⟨wr.1.size,3,J⟩)) ?_;refine tr 14 30 (Z x.4) ?_ ?_
     ·rintro W ⟨⟨z0,z1,z2,z3,z4,t0⟩,-⟩;go_simp
     refine tr 15 31 (I F (V:Int)) ?_ ?_
     ·rintro W ⟨⟨z0,z1,z2,z3,z4,t0⟩,-⟩;go_simp
     refine am (rs:=[10]) K oS ?_;refine aj rfl (λK U=>?_) ak;go_simp;refine ax (e4.o _ u) ?_;rintro e w6 ⟨q6,rfl,b7,R⟩;dsimp only;refine U.out _ _ (i.o _ R) (λhHeld=>?_);clear U K;try simp only[aA,C,ag,af]
     refine am (rs:=[11]) K oS ?_;refine aj rfl (λK U=>?_) ak;go_simp;refine ax (c2.o q6 _ b7) ?_;rintro e w7 ⟨rfl,rfl⟩;dsimp only;refine U.out _ _ (i.o _ R) (λhHeld=>?_);clear U K;try simp only[aA,C,ag,af]
     refine tr 16 32 (I F ((la:Int)+(V:Int))) ?_ ?_
     ·rintro W ⟨⟨z0,z1,z2,z3,z4,t0⟩,-⟩;go_simp;rw[bi];omega
     refine tr 17 33 (al aw) ?_ ?_
     ·rintro W ⟨⟨z0,z1,z2,z3,z4,t0⟩,-⟩;simp[go_sem,a9]
     refine tk 18 34 (al aw) ?_;refine aG K ?_ _;have a6:Hid (Av st.6 st.A (ms.take (j+1))=⟨λt=>if t=x.4 then V+1 else p.c t,p.q++[x],p.d⟩):=Aa (by rw[b5.o,b3.o,if_pos ⟨rfl,O⟩]);obtain⟨⟨y0,y1,y2,y3,y4,r0⟩,-⟩:=i.o _ R;obtain⟨N,j7,c8,a7,-,v0,v1,v2,v3,v4⟩:=f9.o w6 R;have a0:=Aa c8;obtain⟨ln,y⟩:∃q,Hid (p.q.length=q):=⟨_,rfl⟩;have X:Hid ((N.alloc (aF #[I F x.1,I F x.2,Z x.3,Z x.4,I F x.5] 95)).ownsRow w.1.size 95 5 u4 ln (AL p.q)):=Aa (by rw[<-y.o];exact c8.q.alloc _);have g:ab w.1.size w (N.alloc (aF #[I F x.1,I F x.2,Z x.3,Z x.4,I F x.5] 95)):=a7.alloc a7.4 _;have f4:ln<=3000:=by rw[<-y.o];exact c4.o.1
     have a5:=Aa (ES (w:=N) x);clear Q u c6 c8 a7 b7;go_wp2_with(first|refine E5 rfl (.tmp 41) rfl x rfl ?_|(at_builtin;refine aD ?_));refine Aa ?_;go_wp2_with(at_builtin;go_must(refine B4 rfl _ _ 99 rfl w.1.size 95 j0 _ 5 56 aV HJ.o b9.o c0.o c1.o rfl oD u4 ln _ rfl X.o ⟨N.1.size,0,J⟩ 1 1 oD (mc x) rfl rfl a5.o (Ek _) (by unfold az;omega) O g.4 ?_));intro v9 w9 b0 d6 e9;have i4:ab w.1.size w w9:=AJ g X.o d6 g.4 (an _);have g7:Hid (PtR w w.1.size (j+1) (Av st.6 st.A (ms.take (j+1))) v9 u5 w9):=Aa (by rw[a6.o];exact(a0.o.below ((ac _ _).alloc (an _) _)).pushq (by show w9.ownsRow _ _ _ _ (p.q.length+1) _;rw[y.o];exact b0) d6 e9);clear b0 d6 e9 g;go_wp2;go_roundw;case rel=>exact⟨j+1,O,by go_num,g7,i4⟩
     case measure=>simp[intOf];omega
    ·as_aux_lemma=>
     have g9:=Aa a9;have a9:¬((la:Int)+(V:Int)<20):=O;refine av (S:=(λW=>(W.cell? ⟨wr.1.size,0,J⟩=G (I F x.1)/\W.cell? ⟨wr.1.size,1,J⟩=G (I F x.2)/\W.cell? ⟨wr.1.size,2,J⟩=G (Z x.3)/\W.cell? ⟨wr.1.size,3,J⟩=G (Z x.4)/\W.cell? ⟨wr.1.size,4,J⟩=G (I F x.5)/\(aK 315 (bb (G w.1.size)) (Z x.4) ao).run aa W=.ok (I F (V:Int)) W)/\ab l.1.size l W)) K (i.o _ (ac _ _).drew) (λhHeld=>?_);refine tk 0 16 (Y (G ⟨H,0,J⟩)) ?_;refine tk 1 17 (Y (G ⟨H,0,J⟩)) ?_;refine tk 2 18 (Y (G ⟨H,6,J⟩)) ?_;refine tk 3 19 (Y (G ⟨wr.1.size,3,J⟩)) ?_;refine tr 4 20 (Z x.4) ?_ ?_
     ·rintro W ⟨⟨z0,z1,z2,z3,z4,t0⟩,-⟩;go_simp
     refine am (rs:=[5]) K oS ?_;refine aj rfl (λK U=>?_) ak;go_simp;refine ax (b2.o _ (ac _ _).drew) ?_;rintro e w5 ⟨rfl,u⟩;dsimp only;refine U.out _ _ (i.o _ u) (λhHeld=>?_);clear U K;try simp only[aA,C,ag,af]
     refine tk 6 22 (al aw) ?_;refine tk 7 23 (Y (G ⟨H,0,J⟩)) ?_;refine tk 8 24 (Y (G ⟨wr.1.size,3,J⟩)) ?_;refine tr 9 25 (Z x.4) ?_ ?_
     ·rintro W ⟨⟨z0,z1,z2,z3,z4,t0⟩,-⟩;go_simp
     refine tk 12 28 (bb (G w.1.size)) ?_;refine tk 13 29 (Y (G ⟨wr.1.size,3,J⟩)) ?_;refine tr 14 30 (Z x.4) ?_ ?_
     ·rintro W ⟨⟨z0,z1,z2,z3,z4,t0⟩,-⟩;go_simp
     refine tr 15 31 (I F (V:Int)) ?_ ?_
     ·rintro W ⟨⟨z0,z1,z2,z3,z4,t0⟩,-⟩;go_simp
     refine am (rs:=[10]) K oS ?_;refine aj rfl (λK U=>?_) ak;go_simp;refine ax (e4.o _ u) ?_;rintro e w6 ⟨q6,rfl,b7,R⟩;dsimp only;refine U.out _ _ (i.o _ R) (λhHeld=>?_);clear U K;try simp only[aA,C,ag,af]
     refine am (rs:=[11]) K oS ?_;refine aj rfl (λK U=>?_) ak;go_simp;refine ax (c2.o q6 _ b7) ?_;rintro e w7 ⟨rfl,rfl⟩;dsimp only;refine U.out _ _ (i.o _ R) (λhHeld=>?_);clear U K;try simp only[aA,C,ag,af]
     refine tr 16 32 (I F ((la:Int)+(V:Int))) ?_ ?_
     ·rintro W ⟨⟨z0,z1,z2,z3,z4,t0⟩,-⟩;go_simp;rw[bi];omega
     refine tr 17 33 (al ao) ?_ ?_
     ·rintro W ⟨⟨z0,z1,z2,z3,z4,t0⟩,-⟩;simp[go_sem,a9]
     refine tk 18 34 (al ao) ?_;refine aG K ?_ _;have a6:Hid (Av st.6 st.A (ms.take (j+1))=⟨p.c,p.q,p.d++[x]⟩):=Aa (by rw[b5.o,b3.o,if_neg (λq=>g9.o q.2)]);have a0:=Aa (b4.o.below R);have a4:Hid (ab w.1.size w w6):=Aa (Ab b1.o b1.o.4 R);obtain⟨⟨y0,y1,y2,y3,y4,r0⟩,-⟩:=i.o _ R;obtain⟨ln,y⟩:∃q,Hid (p.d.length=q):=⟨_,rfl⟩;have X:Hid ((w6.alloc (aF #[I F x.1,I F x.2,Z x.3,Z x.4,I F x.5] 95)).ownsRow w.1.size 95 5 u5 ln (AL p.d)):=Aa (by rw[<-y.o];exact a0.o.d.alloc _);have g:ab w.1.size w (w6.alloc (aF #[I F x.1,I F x.2,Z x.3,Z x.4,I F x.5] 95)):=a4.o.alloc a4.o.4 _;have f4:ln<=3000:=by rw[<-y.o];exact c4.o.2
     have a5:=Aa (ES (w:=w6) x);clear Q u c6;go_wp2_with(first|refine E5 rfl (.tmp 45) rfl x rfl ?_|(at_builtin;refine aD ?_));refine Aa ?_;go_wp2_with(at_builtin;go_must(refine B4 rfl _ _ 99 rfl w.1.size 95 j0 _ 5 56 aV HJ.o b9.o c0.o c1.o rfl oD u5 ln _ rfl X.o ⟨w6.1.size,0,J⟩ 1 1 oD (mc x) rfl rfl a5.o (Ek _) (by unfold az;omega) O g.4 ?_));intro v8 N B a1 a8;have c5:ab w.1.size w N:=AJ g X.o a1 g.4 (an _);have c3:Hid (PtR w w.1.size (j+1) (Av st.6 st.A (ms.take (j+1))) u4 v8 N):=Aa (by rw[a6.o];exact(a0.o.below ((ac _ _).alloc (an _) _)).pushd (by rw[y.o];exact B) a1 a8);clear B a1 a8 g;go_wp2;go_roundw;case rel=>exact⟨j+1,O,by go_num,c3,c5⟩
     case measure=>simp[intOf];omega
  ·obtain rfl:j=z:=O;rw[show ms.take j=ms from aY (by rw[Hz.o];exact an _)]at HR;have HF:=Aa (And.intro HR.o.q (And.intro HR.o.d hB));clear HR hB;go_wp2;go_ret2;exact⟨_,_,rfl,HF⟩
def Xt(a:(p:Prop)->Decidable p)(st:Bu)(far n:Int)(l:List Mg):Int:=if BD st.7 far=aw then(if st.10=aw then 6 else if n<=st.ar far.toNat then 0 else if st.ar far.toNat+1<n then 10 else Lv a st l)else 2
def Q0O(L:Nat->Prop)(H:Nat)(D:DP)(st:Bu)(far n:Int)(l:List Mg)(d:Dk)(w:au)(e:Ending)(w':au):Prop:=(Xt E st far n l≠0/\e=ae (aR #[I F 0,aU 25 (I F (Xt E st far n l))])/\ab w.1.size w w')\/(Xt E st far n l=0/\n<=st.ar far.toNat/\e=ae (aR #[I F (st.ar far.toNat),aE])/\w=w')\/(Xt E st far n l=0/\¬n<=st.ar far.toNat/\∃W,ab w.1.size w W/\((∃z:Int,e=ae (aR #[I F 0,aU 25 (I F z)])/\O3 L H D st (BV far.toNat (Av st.6 st.A l).q (Av st.6 st.A l).d) (Jq st far.toNat (Av st.6 st.A l).q (Av st.6 st.A l).d) d W (ae (aU 25 (I F z))) w')\/(e=ae (aR #[I F (st.ar far.toNat+1),aE])/\O3 L H D st (BV far.toNat (Av st.6 st.A l).q (Av st.6 st.A l).d) (Jq st far.toNat (Av st.6 st.A l).q (Av st.6 st.A l).d) d W (ae aE) w')))
theorem Hx.ar81{L:Nat->Prop}{H:Nat}{D:DP}{st:Bu}{w:au}(h:Hx L H D st w){i:Nat}(f:i<4):w.cell? ⟨H,78+i*4+3,J⟩=G (I F (st.ar i))/\H<w.1.size:=by obtain⟨M,cs,P,up,ut,dv,b,g,j,k,l,m,n,o,p,c,a,d,e⟩:=h;exact⟨(b.cell (78+i*4+3)).trans (a.3 i f),(ah.1 b.here).1⟩
theorem Q0m{st:Bu}{l:List Mg}(h:Lv E st l=0):∀x∈l,J7 st.7 x=aw:=λx hx=>by
 unfold Lv at h;cases e:J7 st.7 x with
 |true=>rfl
 |false=>rw[if_pos ⟨x,hx,e⟩]at h;cases h
theorem Lz{id:Int}{x:Mg}(h:J7 id x=aw):right x=aw:=by simp only[J7,bh]at h;exact h.1.1
theorem YK{w:au}{B t z m c:Nat}{a:Option Addr}{xs:List br}(j:w.ownsRow B t z (ai a m c) m xs):∀b o,a=G ⟨b,o,J⟩->B<=b/\b<w.1.size:=λb o e=>by
 subst e;rcases j.2 with⟨d,-⟩|⟨g,f,cur,d,h,i,-⟩
 ·cases d
 ·cases d;exact⟨h,(ah.1 i).1⟩
theorem PE(L:Nat->Prop)(H:Nat)(D:DP)(st:Bu)(far n:Int)(ms:List Mg)(a:Option Addr)(z kc:Nat)(d:Dk)(w:au)(h:Hx L H D st w)(hD:DB w D d)(c7:¬L D.b)(hk:FN d st.k)(hL:Lay w)(ho:As st.6)(hz:ms.length=z)(d7:z<=3000)(hm:∀(j:Nat) (x:Mg),ms[j]?=G x->∃gb go,a=G ⟨gb,go,J⟩/\gb<w.1.size/\∀k,k<5->w.cell? ⟨gb,go+j*5+k,J⟩=(mc x)[k]?)(b7:∀x∈ms,x.3.size<=az/\x.4.size<=az)(a6:∀s,(st.A s).length+z<=3000)(hN:st.N+z<1000000)(c8:∀j,0<=st.ar j/\st.ar j<=1000000):aN aa 168 #[Y (G ⟨H,0,J⟩),I F far,I F n,ai a z kc] w (Q0O L H D st far n ms d w):=by
 generalize hPost:Q0O L H D st far n ms d w=Post;have u:=Aa hPost;clear hPost;have HX:=Aa h;have v:Hid (Xt E st far n ms=if BD st.7 far=aw then(if st.10=aw then 6 else if n<=st.ar far.toNat then 0 else if st.ar far.toNat+1<n then 10 else Lv E st ms)else 2):=Aa (by unfold Xt;congr);have a3:Hid (∀er W,Xt E st far n ms=er->er≠0->ab w.1.size w W->Post (ae (aR #[I F 0,aU 25 (I F er)])) W):=Aa (λer W he h0 hB=>by rw[<-u.o];exact aT ⟨by rw[he];exact h0,by rw[he],hB⟩);have a8:=Aa (PF L H D st ms a z kc w h hz d7 hm b7 (λs=>by have:=a6 s;omega));have a4:Hid (∀W,ab w.1.size w W->aN aa 226 #[Y (G ⟨H,0,J⟩),ai a z kc] W λe w'=>∃vq vd,e=ae (aR #[vq,vd])/\Hid (w'.ownsRow W.1.size 95 5 vq (Av st.6 st.A ms).q.length (AL (Av st.6 st.A ms).q)/\w'.ownsRow W.1.size 95 5 vd (Av st.6 st.A ms).d.length (AL (Av st.6 st.A ms).d)/\ab W.1.size W w')):=Aa (λW hB=>St L H D st ms a z kc W (h.below hB) ho hz d7 (λj x hx=>by obtain⟨gb,go,q1,q2,q3⟩:=hm j x hx;exact⟨gb,go,q1,aJ q2 hB.4,λk hk=>(hB.cell (p:=⟨gb,go+j*5+k,J⟩) q2).trans (q3 k hk)⟩) b7 (λs=>by have:=a6 s;omega));have a7:Hid ((Av st.6 st.A ms).q.length+(Av st.6 st.A ms).d.length=z):=Aa (by rw[(EB st.6 st.A ms).1];exact hz);have HMem:Hid (∀x,x∈(Av st.6 st.A ms).q\/x∈(Av st.6 st.A ms).d->x∈ms):=Aa (λx hx=>by
  have:∀(l:List Mg) (p:Pt),(∀y,y∈p.q\/y∈p.d->y∈ms)->(∀y∈l,y∈ms)->∀y,y∈(l.foldl (Fb st.6 st.A) p).q\/y∈(l.foldl (Fb st.6 st.A) p).d->y∈ms:=by
   intro l;induction l with
   |nil=>intro p hp _ y f;exact hp y f
   |cons m r ih=>
    intro p hp hl;refine ih _ (λy f=>?_) (λy f=>hl y (List.mem_cons_of_mem _ f));have d2:=hl m (List.mem_cons_self ..);unfold Fb at f;split at f
    ·rcases f with f|f
     ·rcases aP.1 f with f|f
      ·exact hp y (aT f)
      ·rw[aI.1 f];exact d2
     ·exact hp y (aM f)
    ·rcases f with f|f
     ·exact hp y (aT f)
     ·rcases aP.1 f with f|f
      ·exact hp y (aM f)
      ·rw[aI.1 f];exact d2
  exact this ms ⟨λ_=>0,[],[]⟩ (λy f=>by simp at f) (λy f=>f) x hx);obtain⟨M,cs,P,up,ut,dv,h1,h2,h3,h4,h5,h6,h7,h8,h9,f5,f8,f9,g9⟩:=h;have c0:=(h1.cell 0).trans h9;have c4:=(h1.cell 4).trans h8.4;have HA:=Aa (CD H st.7 far w c0);have b8:=Aa c8;have f3:=Aa a6;have HN:=Aa hN;have HD:=Aa hD;have d8:=Aa c7;have HK:=Aa hk;have HL:=Aa hL;have Hz:=Aa hz;clear h1 h2 h3 h4 h5 h6 h7 h8 h9 f5 f8 f9 g9 c0 hm b7 a6 hN c8 hD c7 hk hL ho hz;obtain⟨b,Hb⟩:∃b,Hid (BD st.7 far=b):=⟨_,rfl⟩;rw[Hb.o]at HA v;cases b
 ·have Q:=Aa (a3.o 2 w (by rw[v.o,if_neg oD]) oD (ac _ _));go_enter aQ,aL;go_wp2_with(go_at_call 127;go_must(refine HA.o.mono ?_);rintro e w1 ⟨rfl,rfl⟩;refine aD ?_);refine Aa ?_;go_wp2;exact Q.o
 rw[if_pos rfl]at v;obtain⟨dn,f0⟩:∃q,Hid (st.10=q):=⟨_,rfl⟩;rw[f0.o]at c4 v;cases dn;case true=>have Q:=Aa (a3.o 6 w (by rw[v.o,if_pos rfl]) oD (ac _ _));go_enter aQ,aL;go_wp2_with(go_at_call 127;go_must(refine HA.o.mono ?_);rintro e w1 ⟨rfl,rfl⟩;refine aD ?_);refine Aa ?_;go_wp2;exact Q.o
 rw[if_neg oD]at v;obtain⟨⟨k0,k4⟩,-⟩:=AT.1 Hb.o;obtain⟨i,i0⟩:∃n:Nat,far=(n:Int):=⟨far.toNat,O⟩;subst i0;have hi:i<4:=O;rw[ay]at v;obtain⟨f4,i3⟩:=HX.o.ar81 hi;obtain⟨c9,d0⟩:=b8.o i;obtain⟨ar,R⟩:∃q,Hid (st.ar i=q):=⟨_,rfl⟩;rw[R.o]at f4 v c9 d0;by_cases a2:n<=ar
 ·have Q:Hid (Post (ae (aR #[I F ar,aE])) w):=Aa (by rw[<-u.o];exact aM (aT ⟨by rw[v.o,if_pos a2],by rw[ay,R.o];exact a2,by rw[ay,R.o],rfl⟩));go_enter aQ,aL;go_wp2_with(go_at_call 127;go_must(refine HA.o.mono ?_);rintro e w1 ⟨rfl,rfl⟩;refine aD ?_);refine Aa ?_;go_wp2;exact Q.o
 by_cases d3:ar+1<n
 ·have Q:=Aa (a3.o 10 w (by rw[v.o,if_neg a2,if_pos d3]) oD (ac _ _));go_enter aQ,aL;go_wp2_with(go_at_call 127;go_must(refine HA.o.mono ?_);rintro e w1 ⟨rfl,rfl⟩;refine aD ?_);refine Aa ?_;go_wp2;exact Q.o
 rw[if_neg a2,if_neg d3]at v;have c3:Hid (¬n<=st.ar ((i:Int)).toNat):=Aa (by rw[ay,R.o];exact a2);have c2:Hid (aN aa 225 #[Y (G ⟨H,0,J⟩),ai a z kc] w λe w'=>(e=ae (aU 25 (I F (Lv E st ms)))/\Hid (Lv E st ms≠0/\ab w.1.size w w'))\/(e=ae aE/\Hid (Lv E st ms=0/\ab w.1.size w w'))):=Aa (a8.o.mono (λe w' q=>by
  rcases q with⟨⟨q1,rfl⟩|⟨q1,rfl⟩,q2⟩
  ·exact aT ⟨rfl,Aa ⟨q1,q2⟩⟩
  ·exact aM ⟨rfl,Aa ⟨q1,q2⟩⟩));obtain⟨my,c5⟩:∃q,Hid (Lv E st ms=q):=⟨_,rfl⟩;rw[c5.o]at v c2;clear a8;go_enter aQ,aL;go_wp2_with(go_at_call 127;go_must(refine HA.o.mono ?_);rintro e w1 ⟨rfl,rfl⟩;refine aD ?_);refine Aa ?_;clear HA;go_wp2_with(go_at_call 225;go_must(refine c2.o.mono ?_);intro e w1 hr;obtain⟨rfl,hq⟩|⟨rfl,hq⟩:=hr<;>refine aD ?_)
 ·refine Aa ?_;have Q:=Aa (a3.o my w1 v.o hq.o.1 hq.o.2);clear hq;go_wp2;exact Q.o
 ·refine Aa ?_;obtain rfl:my=0:=hq.o.1;have V:=hq.o.2;have i2:=Aa V;have d4:=Q0m c5.o;have HOk:=Aa d4;obtain⟨pq,b4⟩:∃q,Hid ((Av st.6 st.A ms).q=q):=⟨_,rfl⟩;obtain⟨pd,b3⟩:∃q,Hid ((Av st.6 st.A ms).d=q):=⟨_,rfl⟩;rw[b4.o,b3.o]at a4 a7 HMem;obtain⟨W2,a0⟩:∃W2,w1.alloc (aF #[I F 5,Z ⟨#[]⟩,Z ⟨#[]⟩,I F 0,I F (i:Int),ai J 0 0,ai J 0 0,ai J 0 0,ai J 0 0] 142)=W2:=⟨_,rfl⟩;have c6:ab w.1.size w W2:=by rw[<-a0];exact V.alloc V.4 _
  have b5:Blk W2 w1.1.size #[I F 5,Z ⟨#[]⟩,Z ⟨#[]⟩,I F 0,I F (i:Int),ai J 0 0,ai J 0 0,ai J 0 0,ai J 0 0] 142:=by rw[<-a0];exact Blk.new w1 _ 142
  have i4:w1.1.size<W2.1.size:=(ah.1 b5).1;obtain⟨lq,b2⟩:∃q,Hid (pq.length=q):=⟨_,rfl⟩;obtain⟨ld,b1⟩:∃q,Hid (pd.length=q):=⟨_,rfl⟩;rw[b2.o,b1.o]at a4;have a9:=Aa (a4.o W2 c6);rw[<-a0]at a9;have d9:=Aa a0;have b9:=Aa c6;have e9:=Aa b5;have i6:w.1.size<=w1.1.size:=V.4;clear hq d4 a4 V b5 a0;go_wp2_with(go_at_call 226;go_must(refine a9.o.mono ?_);rintro e w3 ⟨vq,vd,rfl,t⟩;refine aD ?_);refine Aa ?_;rw[d9.o]at t;obtain⟨aq,kq,rfl⟩:=Ar t.o.1;obtain⟨ad,kd,rfl⟩:=Ar t.o.2.1;have g:=e9.o.after t.o.2.2;obtain⟨⟨e0,e1,e2,e3,e4,e5,e6,e7,e8⟩,f6,f7⟩:(w3.cell? ⟨w1.1.size,0,J⟩=G (I F 5)/\w3.cell? ⟨w1.1.size,1,J⟩=G (Z ⟨#[]⟩)/\w3.cell? ⟨w1.1.size,2,J⟩=G (Z ⟨#[]⟩)/\w3.cell? ⟨w1.1.size,3,J⟩=G (I F 0)/\w3.cell? ⟨w1.1.size,4,J⟩=G (I F (i:Int))/\w3.cell? ⟨w1.1.size,5,J⟩=G (ai J 0 0)/\w3.cell? ⟨w1.1.size,6,J⟩=G (ai J 0 0)/\w3.cell? ⟨w1.1.size,7,J⟩=G (ai J 0 0)/\w3.cell? ⟨w1.1.size,8,J⟩=G (ai J 0 0))/\w3.frozen? ⟨w1.1.size,6,J⟩=ao/\w3.frozen? ⟨w1.1.size,7,J⟩=ao:=⟨⟨g.cell 0,g.cell 1,g.cell 2,g.cell 3,g.cell 4,g.cell 5,g.cell 6,g.cell 7,g.cell 8⟩,g.free 6,g.free 7⟩;have b6:=(g.n6 (ai aq lq kq)).n7 (ai ad ld kd);obtain⟨B,U⟩:∃B,(w3.setCell ⟨w1.1.size,6,J⟩ (ai aq lq kq)).setCell ⟨w1.1.size,7,J⟩ (ai ad ld kd)=B:=⟨_,rfl⟩;rw[U]at b6;have i5:W2.1.size<=w3.1.size:=t.o.2.2.4;have d5:B.1.size=w3.1.size:=by rw[<-U];simp
  have a5:∀k,k≠w1.1.size->B.1[k]?=w3.1[k]?:=λk hk=>by rw[<-U,be _ _ _ _ hk,be _ _ _ _ hk]
  have S:ab w.1.size w w3:=Ab b9.o b9.o.4 t.o.2.2;have X:ab w.1.size w B:=⟨by rw[<-U];exact S.1,by rw[<-U];exact S.2,by rw[<-U];exact S.3,by rw[d5];exact S.4,λk hk=>(a5 k O).trans (S.5 k hk)⟩;have oq:B.ownsRow W2.1.size 95 5 (ai aq lq kq) lq (AL pq):=An t.o.1 (λc hc=>a5 c (by have:=(t.o.1.lt c hc).1;omega));have od:B.ownsRow W2.1.size 95 5 (ai ad ld kd) ld (AL pd):=An t.o.2.1 (λc hc=>a5 c (by have:=(t.o.2.1.lt c hc).1;omega));have a1:∀(x:Option Addr) (l c:Nat) (xs:List br),B.ownsRow W2.1.size 95 5 (ai x l c) l xs->∀b o,x=G ⟨b,o,J⟩->w.1.size<=b/\b<B.1.size:=λx l c xs h b o e=>by have:=YK h b o e;omega
  have d1:=a7.o;have b0:Hid (aN aa 96 #[Y (G ⟨H,0,J⟩),ba #[I F 5,Z ⟨#[]⟩,Z ⟨#[]⟩,I F 0,I F (i:Int),ai J 0 0,ai aq lq kq,ai ad ld kd,ai J 0 0]] B λe w'=>((∃z:Int,e=ae (aU 25 (I F z)))\/e=ae aE)/\Hid (O3 L H D st (BV i pq pd) (Jq st i pq pd) d B e w')):=Aa (by
   have q:=Vh L H D st i pq pd aq ad kq kd d w B HX.o X (Cz (by rw[b2.o];exact oq)) (Cz (by rw[b1.o];exact od)) (a1 aq lq kq _ oq) (a1 ad ld kd _ od) (λm hm=>Lz (HOk.o m (HMem.o m (aT hm)))) (λm hm=>Lz (HOk.o m (HMem.o m (aM hm)))) ⟨O,O⟩ (λs=>by have:=f3.o s;omega) (by have:=HN.o;omega) ⟨(X.5 D.b HD.o.lt).trans HD.o.1,HD.o.2,HD.o.3⟩ d8.o HK.o (HL.o.on (X.mono HL.o.5)) hi b8.o;rw[b2.o,b1.o]at q;refine q.mono (λe w' q=>⟨?_,Aa q⟩);rcases q with⟨_,_,rfl,_⟩|⟨_,_,_,_,_,_,_,⟨_,rfl,_⟩|⟨_,rfl,_⟩⟩
   ·exact aT ⟨_,rfl⟩
   ·exact aT ⟨_,rfl⟩
   ·exact aM rfl);have c1:=Aa X;obtain⟨g0,g1,g2,g3,g4,g5,g6,g7,g8⟩:=b6.nine.1;clear t g b6 oq od a1 S X a5 d5 a9 d1;go_wp2_with(go_at_call 96;go_must(refine b0.o.mono ?_);intro e w5 hr;obtain⟨⟨z5,rfl⟩|rfl,hc⟩:=hr<;>refine aD ?_)
  ·refine Aa ?_;have Q:Hid (Post (ae (aR #[I F 0,aU 25 (I F z5)])) w5):=Aa (by rw[<-u.o];refine aM (aM ⟨v.o,(by have:=c3.o;omega),B,c1.o,aT ⟨z5,rfl,?_⟩⟩);rw[ay,b4.o,b3.o];exact hc.o);clear hc b0;go_wp2;exact Q.o
  ·refine Aa ?_;have d6:Hx L H D (Jq st i pq pd) w5:=by
    rcases hc.o with⟨_,_,q,_⟩|⟨_,_,_,_,_,_,_,⟨_,q,_⟩|⟨_,_,q⟩⟩
    ·cases q
    ·cases q
    ·exact q
   obtain⟨c85,i1⟩:=d6.ar81 hi;rw[show(Jq st i pq pd).ar i=st.ar i+1 from Ad _ _ _,R.o]at c85;have Q:Hid (Post (ae (aR #[I F (ar+1),aE])) w5):=Aa (by
    rw[<-u.o];refine aM (aM ⟨v.o,(by have:=c3.o;omega),B,c1.o,aM ⟨?_,?_⟩⟩)
    ·rw[ay,R.o]
    ·rw[ay,b4.o,b3.o];exact hc.o);clear hc b0 d6;go_wp2;exact Q.o
end
end Go.Proofs.YtkkallehdijiaaaGreatDoor
