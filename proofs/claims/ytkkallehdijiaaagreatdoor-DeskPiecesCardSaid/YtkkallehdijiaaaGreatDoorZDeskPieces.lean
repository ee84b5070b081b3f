/- PROVED: whatever two texts waybillkeep.DeskPieces is called with, it returns true and its arguments read as before; conditions: the package variables that the row lists hold what the program's text lays in them (the card ties them). -/
import Derived.Test.YtkkallehdijiaaaGreatDoorZDsU
import Derived.Test.YtkkallehdijiaaaGreatDoorZDeFacts
import Derived.Test.YtkkallehdijiaaaGreatDoorZDeLaid
import Derived.Test.YtkkallehdijiaaaGreatDoorCards
import Derived.Test.YtkkallehdijiaaaGreatDoorTie
import Derived.OpenShut
import Derived.ShutString
import Derived.ChangeOld
import Derived.SizedLaws
import Derived.SevenTiedAt
set_option linter.all false
set_option maxHeartbeats 0
set_option maxRecDepth 99999
open Go.Proofs.Tryz renaming prog->F,f3->I,checked->G,underlying9->Y,func3->aa,params3->ab
open Go.OpenSpec renaming ofChange->Z
open Option.some renaming inj->J
open Bool renaming true->E,false->T
namespace Go.Proofs.YtkkallehdijiaaaGreatDoor
open Go.ChangeShapes Go.WideShapes Go.ChangeAt Go.RowKit
open Go.ChangeMaps (open_string)
theorem own:ownKnob F.godebug=none:=K
theorem Q2z:laidOutB F=E:=K
theorem Q2y{H:Type}{enc:TypeId×Value->H}{a:Assume}{C:Checked}{os:Os}{f:FuncId}{fn:Func}{s:ChangeSpec}{h:List PathCond}{apart k c g:Bool}{X:World->Array Value->Prop}(B:∀(w w':World) (args:Array Value),w.1=w'.1->X w args->X w' args)(own:ownKnob C.2.godebug=none)(l:os.Started)(n:C.2.inits.idxOf? f=none)(u:C.2.2[f]?=some fn)(m:∃(w:World) (tape:Tape) (i:Input),w.4=os/\(w.forCall tape i).Shaped C.2/\i.3=[]/\Input.okWide C.2 (w.forCall tape i) .any w.1.size f i/\((s.pre enc C.2 fn h apart (w.forCall tape i).memory i.2/\X (w.forCall tape i).memory i.2)/\sizedMet enc C.2 fn (Z s) apart (w.forCall tape i).memory i.2)/\a.holds C.2 (lone (Frame.enter C.2 f i.2 .normal) [] (w.forCall tape i)))(d:∀(W:World) (base:Nat) (args:Array Value) (ds q:List (DataW H)) (b:List MemPlace),(∀(j:Nat) t v,fn.4[j]?=some t->args[j]?=some v->Value.okWide C.2 W .any base t v)->DataW.Whole enc C.2 fn.4.1 s.2 apart W args.1 ds q b->X W args->W.ShapedOpen C.2->(DataW.weightsEach C.2 (fn.4.1++s.plain.varTypes C.2) (ds++q)).all (·<=reachBytes)=E->Calls C.2 f args W λe z=>∃v,e=.returned v/\s.post enc C.2 fn apart k c g W args v z):ReturnsInHanded a C os f .any (λw args=>(s.pre enc C.2 fn h apart w args/\X w args)/\sizedMet enc C.2 fn (Z s) apart w args) (s.post enc C.2 fn apart k c g):=by refine returnsInHanded_of_calls own l n m ?_;intro w tape i _ y _ x hpre _;obtain⟨_,_,_,r,o,_,_,_,_,p⟩:=x;have e:r=fn:=J (o.symm.trans u);subst e;obtain⟨⟨⟨ds,q,b,A,_⟩,hx⟩,M⟩:=hpre;have hw':=DataW.Whole.of_heap (w':=w.forCall tape i) (by rfl) A;refine(d (w.forCall tape i) w.1.size i.2 ds q b p hw' (B _ _ _ (by rfl) hx) y (M.weights A)).mono λe z ⟨v,D,L⟩=>?_;subst D;exact ChangeSpec.post_blind L
theorem Q2q(os:Os)(c:os.Started)(H:Type)(enc:TypeId×Value->H):ReturnsInHanded {} G os 3 .any (λw args=>(Rows.deskPiecesSpec.pre enc F I [] T w args/\laidMetH F Rows.deskPiecesRow.16 w)/\sizedMet enc F I (Z Rows.deskPiecesSpec) T w args) (Rows.deskPiecesSpec.post enc F I T E T T):=by
 refine Q2y (C:=G) (X:=λw _=>laidMetH F Rows.deskPiecesRow.16 w) (λ_ _ _ hh h=>h.of_heap hh) own c K aa
  (ChangeSpec.witness_shaped (enc:=enc) (C:=G) (os:=os) (X:=λw _=>laidMetH F Rows.deskPiecesRow.16 w) T ((World.doorLaid F 40000 os).layVars F [("unicode/utf8.first",Rows.laid_unicode_utf8_first)]) #[.string ⟨#[]⟩,.string ⟨#[]⟩] 8 (World.layVars_os _ _ _) (World.shaped_of_ZipB K K) K K K (Q2E os _)) ?_;intro W base args ds V g b P hL z f;have a:∀(j:Nat) t v,I.4[j]?=some t->args[j]?=some v->Value.okWide F W .any base t v:=b;have i:(DataW.weightsEach F (I.4.1++_) (ds++V)).all (·<=reachBytes)=E:=f;have A:=P;obtain⟨p,q,d,hV,rfl,a0,a1⟩:=P;have N:DataW.TrodAll enc F W 0 (λ_=>E) E I.4.1 args.1 ds p:=d;rw[ab]at N a i;obtain⟨v0,a2,d0,S,p0,q0,B,rfl,rfl,n,r0⟩:=trodAll_cons N;obtain⟨R,a3,d1,U,p1,q1,rfl,rfl,rfl,r,r1⟩:=trodAll_cons r0;obtain⟨rfl,rfl,rfl⟩:=trodAll_nil r1;obtain rfl:args=#[v0,R]:=by cases args;simp_all
 obtain⟨rfl,rfl⟩:=trodVars_none hV;have L:∀x∈p0,x.block<W.1.size:=by obtain⟨m,D⟩:=n;exact DataW.trod_lt m _ _ _ D
 have M:∀x∈p1,x.block<W.1.size:=by obtain⟨m,D⟩:=r;exact DataW.trod_lt m _ _ _ D
 have o:=n;have u:=r;obtain⟨s,rfl,k,-,ws⟩:=open_string Y (a 0 9 v0 rfl rfl) o;obtain⟨t,rfl,l,-,wt⟩:=open_string Y (a 1 9 R rfl rfl) u;have y:=Q2H hL z;have l0:=sized_string (j:=0) i rfl (by rw[k];rfl);have l1:=sized_string (j:=1) i rfl (by rw[l];rfl);have Q:=reachBytes_lt;clear d b f i;refine(Q0r s t ?_ ?_ W y).mono λe W' ⟨he,bel⟩=>?_
 ·rw[Lib.size_eq];exact Nat.le_trans l0 (Nat.le_of_lt Q)
 ·rw[Lib.size_eq];exact Nat.le_trans l1 (Nat.le_of_lt Q)
 subst he;exact⟨_,rfl,_,_,_,[],_,[],A,trodAll_mk1 (shut_bool Tryz.underlying4 _),
  (trodAll_cons_mk (Below.trod Q2z K (of_decide_eq_true K) n bel L) (trodAll_cons_mk (Below.trod Q2z K (of_decide_eq_true K) r bel M) trodAll_mk0)),rfl,bel.frame _,λh=>by cases h⟩
theorem Q2r:Rows.DeskPiecesSaid:=OpenClaim.holds_of_wide 3 I rfl rfl rfl rfl rfl rfl rfl ⟨rfl,rfl,rfl,rfl,rfl⟩ rfl rfl rfl rfl rfl K aa Q2K (of_decide_eq_true K) (by unfold Func.isWrapper;first|(rw[if_pos (by decide+kernel)];kernel_rfl)|(rw[if_neg (by decide+kernel)];exact⟨rfl,rfl⟩)) (λos a H enc _=>Q2q os a H enc)
theorem deskPieces_card:Rows.DeskPiecesCardSaid:=Claim7.holds_tied_plain_at .later [] [.data,.data,.data,.data,.handle,.sentinel,.sentinel,.listed,.data,.pinned] E (E, "54911e844f88373f2eb289dce87cf0ad8cad00c0683255b4f31bd26d22f9aef2") E Q2r (λ_ h=>by cases h) K (λ_ h=>by cases h) deskPieces_row_tie rfl ⟨rfl,rfl⟩ K rfl (λf fn d b=>by
 obtain rfl:f=3:=J ((show F.funcNamed "waybill/waybillkeep.DeskPieces" =some 3 by kernel_rfl).symm.trans d)|>.symm;obtain rfl:fn=I:=(J (aa.symm.trans b)).symm;exact⟨K,λj t c=>by
  rw[ab]at c;have e:t∈[9,9]:=by simpa using Array.mem_of_getElem? c
  have a:([9,9].all λu=>!Tryz.prog.wantsStandIn u)=E:=K;exact(show F.wantsStandIn t=T by simpa using List.all_eq_true.1 a t e)⟩)
 K
#print axioms deskPieces_card
end Go.Proofs.YtkkallehdijiaaaGreatDoor
