import Derived.Test.YtgkcfpbndgfdlaaGreatDoorZWWo
import Derived.Test.YtgkcfpbndgfdlaaGreatDoorZWoLaid
import Derived.Test.YtgkcfpbndgfdlaaGreatDoorZWoDoor
import Derived.Test.YtgkcfpbndgfdlaaGreatDoorZWoFacts
import Derived.Test.YtgkcfpbndgfdlaaGreatDoorCards
import Derived.Test.YtgkcfpbndgfdlaaGreatDoorTie
import Derived.SevenTiedAt
set_option linter.all false
set_option maxHeartbeats 0
set_option maxRecDepth 99999
open Go.Proofs.Tryz renaming prog->F,f3->I,checked->G,func3->E,params3->Y
open Go.OpenSpec renaming ofChange->Z
open Option.some renaming inj->J
namespace Go.Proofs.YtgkcfpbndgfdlaaGreatDoor
open Go.ChangeShapes Go.WideShapes Go.ChangeAt Go.RowKit
theorem own:ownKnob F.godebug=none:=K
theorem PY:laidOutB F=true:=K
theorem Nd{H:Type}{enc:TypeId×Value->H}{a:Assume}{C:Checked}{os:Os}{f:FuncId}{fn:Func}{s:ChangeSpec}{h:List PathCond}{apart k c g:Bool}{X:World->Array Value->Prop}(A:∀(w w':World) (args:Array Value),w.1=w'.1->X w args->X w' args)(own:ownKnob C.2.godebug=none)(l:os.Started)(n:C.2.inits.idxOf? f=none)(u:C.2.2[f]?=some fn)(m:∃(w:World) (tape:Tape) (i:Input),w.4=os/\(w.forCall tape i).Shaped C.2/\i.3=[]/\Input.okWide C.2 (w.forCall tape i) .any w.1.size f i/\((s.pre enc C.2 fn h apart (w.forCall tape i).memory i.2/\X (w.forCall tape i).memory i.2)/\sizedMet enc C.2 fn (Z s) apart (w.forCall tape i).memory i.2)/\a.holds C.2 (lone (Frame.enter C.2 f i.2 .normal) [] (w.forCall tape i)))(d:∀(W:World) (base:Nat) (args:Array Value) (ds r:List (DataW H)) (b:List MemPlace),(∀(j:Nat) t v,fn.4[j]?=some t->args[j]?=some v->Value.okWide C.2 W .any base t v)->DataW.Whole enc C.2 fn.4.1 s.2 apart W args.1 ds r b->X W args->W.ShapedOpen C.2->Calls C.2 f args W λe z=>∃v,e=.returned v/\s.post enc C.2 fn apart k c g W args v z):ReturnsInHanded a C os f .any (λw args=>(s.pre enc C.2 fn h apart w args/\X w args)/\sizedMet enc C.2 fn (Z s) apart w args) (s.post enc C.2 fn apart k c g):=by refine returnsInHanded_of_calls own l n m ?_;intro w tape i _ y _ x hpre _;obtain⟨_,_,_,q,o,_,_,_,_,p⟩:=x;have e:q=fn:=J (o.symm.trans u);subst e;obtain⟨⟨⟨ds,r,b,L,_⟩,hx⟩,_⟩:=hpre;have hw':=DataW.Whole.of_heap (w':=w.forCall tape i) (by rfl) L;refine(d (w.forCall tape i) w.1.size i.2 ds r b p hw' (A _ _ _ (by rfl) hx) y).mono λe z ⟨v,B,D⟩=>?_;subst B;exact ChangeSpec.post_blind D
theorem Ic(os:Os)(c:os.Started)(H:Type)(enc:TypeId×Value->H):ReturnsInHanded {} G os 3 .any (λw args=>(Rows.worldOnceSpec.pre enc F I [] false w args/\laidMetH F Rows.worldOnceRow.16 w)/\sizedMet enc F I (Z Rows.worldOnceSpec) false w args) (Rows.worldOnceSpec.post enc F I false true false false):=by
 refine Nd (C:=G) (X:=λw _=>laidMetH F Rows.worldOnceRow.16 w) (λ_ _ _ S h=>h.of_heap S) own c K E
  (ChangeSpec.witness_shaped (enc:=enc) (C:=G) (os:=os) (X:=λw _=>laidMetH F Rows.worldOnceRow.16 w) false (World.doorLaid F 40000 os) #[.int .i64 0,.slice none 0 0] 8 rfl (World.shaped_of_ZipB K K) K K K (Xr os _)) ?_;intro W base args ds gs i b A hL n;have a:∀(j:Nat) t v,I.4[j]?=some t->args[j]?=some v->Value.okWide F W .any base t v:=b;have o:=A;obtain⟨p,q,f,P,rfl,R,U⟩:=A;have z:DataW.TrodAll enc F W 0 (λ_=>true) true I.4.1 args.1 ds p:=f;rw[Y]at z a;obtain⟨v0,a0,d0,M,V,q0,r,rfl,rfl,h0,r0⟩:=trodAll_cons z;obtain⟨D,a2,d1,N,p1,q1,rfl,rfl,rfl,h1,r1⟩:=trodAll_cons r0;obtain⟨rfl,rfl,rfl⟩:=trodAll_nil r1;obtain rfl:args=#[v0,D]:=by cases args;simp_all
 obtain⟨rfl,rfl⟩:=trodVars_none P;obtain⟨L,B,d,rfl⟩:=okWide_slice Tryz.underlying22 (a 1 22 D rfl rfl);have u:∀x∈V,x.block<W.1.size:=by obtain⟨m,hm⟩:=h0;exact DataW.trod_lt m _ _ _ hm
 have y:∀x∈p1,x.block<W.1.size:=by obtain⟨m,hm⟩:=h1;exact DataW.trod_lt m _ _ _ hm
 obtain⟨l,rfl,s,-⟩:=SJ h1;have k:=h0;obtain⟨x,rfl,-,-,-⟩:=open_int Tryz.underlying3 (a 0 3 v0 rfl rfl) k;have g:=WE hL n;clear f b;refine(Kl x L d l W g s).mono λe W' ⟨Q,bel⟩=>?_;subst Q;exact⟨_,rfl,_,_,_,[],_,[],o,trodAll_mk1 (shut_bool Tryz.underlying4 _),
  (trodAll_cons_mk (Below.trod PY K (of_decide_eq_true K) h0 bel u)
    (trodAll_cons_mk (Below.trod PY K (of_decide_eq_true K) h1 bel y) trodAll_mk0)),rfl,bel.frame _,λh=>by cases h⟩
theorem IE:Rows.WorldOnceSaid:=OpenClaim.holds_of_wide 3 I rfl rfl rfl rfl rfl rfl rfl ⟨rfl,rfl,rfl,rfl,rfl⟩ rfl rfl rfl rfl rfl K E Vi (of_decide_eq_true K) (by unfold Func.isWrapper;first|(rw[if_pos (by decide+kernel)];kernel_rfl)|(rw[if_neg (by decide+kernel)];exact⟨rfl,rfl⟩)) (λos a H enc _=>Ic os a H enc)
theorem worldOnce_card:Rows.WorldOnceCardSaid:=Claim7.holds_tied_plain_at .later [] [.data,.data,.data,.sentinel,.sentinel,.listed,.data,.data] true (true, "79c54d0fae5e44c0961be4844d40f1963773679bf97f562163cfd2e3a3cfca8f") true IE (λ_ h=>by cases h) K (λ_ h=>by cases h) worldOnce_row_tie rfl ⟨rfl,rfl⟩ K rfl (λf fn d b=>by
 obtain rfl:f=3:=J ((show F.funcNamed "waybill/waybillkeep.WorldOnce" =some 3 by kernel_rfl).symm.trans d)|>.symm;obtain rfl:fn=I:=(J (E.symm.trans b)).symm;exact⟨K,λj t c=>by
  rw[Y]at c;have hm:t∈[3,22]:=by simpa using Array.mem_of_getElem? c
  have a:([3,22].all λu=>!Tryz.prog.wantsStandIn u)=true:=K;exact(show F.wantsStandIn t=false by simpa using List.all_eq_true.1 a t hm)⟩)
 K
#print axioms worldOnce_card
end Go.Proofs.YtgkcfpbndgfdlaaGreatDoor
