/- PROVED: whatever number, acts and number waybilllaw.HousePlays is called with, it returns true and its arguments read as before; conditions: the package variables that the row lists hold what the program's text lays in them (the card ties them). -/
import Derived.Test.YtkabgmdjfiidhaaGreatDoorZHpLaid
import Derived.Test.YtkabgmdjfiidhaaGreatDoorZHpDoor
import Derived.Test.YtkabgmdjfiidhaaGreatDoorZHpFacts
import Derived.Test.YtkabgmdjfiidhaaGreatDoorCards
import Derived.Test.YtkabgmdjfiidhaaGreatDoorTie
import Derived.SevenTiedAt
set_option linter.all false
set_option maxHeartbeats 0
set_option maxRecDepth 99999
open Go.Proofs.Tryz renaming prog->F,underlying3->I,f4->J,checked->Y,func4->aa,params4->ab
open Go.OpenSpec renaming ofChange->Z
open Go renaming trodAll_cons_mk->G,ReturnsInHanded->T,laidMetH->ac,sizedMet->ad,Value->ae,World->af
open Option.some renaming inj->E
namespace Go.Proofs.YtkabgmdjfiidhaaGreatDoor
open Go.ChangeShapes Go.WideShapes Go.ChangeAt Go.RowKit
theorem hown:ownKnob F.godebug=none:=K
theorem I8:laidOutB F=true:=K
theorem I9(id b:Int)(a:Option Addr)(l:List Ax)(c:Nat)(w:af)(i:Lay w)(f:Glob w)(h:Y6 w.1.size w a l)(k:l.length<=maxLen)(j:-9223372036854775808<=b/\b<=9223372036854775807):Calls F 4 #[.int .i64 id,.slice a l.length c,.int .i64 b] w λe w'=>e=.returned (.bool true)/\Below w.1.size w w':=by
 by_cases d:l.length<=80
 ·by_cases g:0<=id/\id<=3
  ·exact V9 id b a l c w i f h d g j
  ·exact T7 id b a l.length c w f d O
 ·exact T6 id b a l.length c w O (by unfold maxLen at k;omega)
theorem Ll{H:Type}{enc:TypeId×ae->H}{a:Assume}{C:Checked}{os:Os}{f:FuncId}{fn:Func}{s:ChangeSpec}{h:List PathCond}{apart k c g:Bool}{X:af->Array ae->Prop}(D:∀(w w':af) (args:Array ae),w.1=w'.1->X w args->X w' args)(own:ownKnob C.2.godebug=none)(l:os.Started)(n:C.2.inits.idxOf? f=none)(x:C.2.2[f]?=some fn)(m:∃(w:af) (tape:Tape) (i:Input),w.4=os/\(w.forCall tape i).Shaped C.2/\i.3=[]/\Input.okWide C.2 (w.forCall tape i) .any w.1.size f i/\((s.pre enc C.2 fn h apart (w.forCall tape i).memory i.2/\X (w.forCall tape i).memory i.2)/\ad enc C.2 fn (Z s) apart (w.forCall tape i).memory i.2)/\a.holds C.2 (lone (Frame.enter C.2 f i.2 .normal) [] (w.forCall tape i)))(d:∀(W:af) (base:Nat) (args:Array ae) (q u:List (DataW H)) (b:List MemPlace),(∀(j:Nat) t v,fn.4[j]?=some t->args[j]?=some v->Value.okWide C.2 W .any base t v)->DataW.Whole enc C.2 fn.4.1 s.2 apart W args.1 q u b->X W args->W.ShapedOpen C.2->Calls C.2 f args W λe B=>∃v,e=.returned v/\s.post enc C.2 fn apart k c g W args v B):T a C os f .any (λw args=>(s.pre enc C.2 fn h apart w args/\X w args)/\ad enc C.2 fn (Z s) apart w args) (s.post enc C.2 fn apart k c g):=by refine returnsInHanded_of_calls own l n m ?_;intro w tape i _ z _ y hpre _;obtain⟨_,_,_,r,o,_,_,_,_,p⟩:=y;have e:r=fn:=E (o.symm.trans x);subst e;obtain⟨⟨⟨q,u,b,N,_⟩,hx⟩,_⟩:=hpre;have A:=DataW.Whole.of_heap (w':=w.forCall tape i) (by rfl) N;refine(d (w.forCall tape i) w.1.size i.2 q u b p A (D _ _ _ (by rfl) hx) z).mono λe B ⟨v,L,M⟩=>?_;subst L;exact ChangeSpec.post_blind M
theorem Gb(os:Os)(d:os.Started)(H:Type)(enc:TypeId×ae->H):T {} Y os 4 .any (λw args=>(Rows.housePlaysSpec.pre enc F J [] false w args/\ac F Rows.housePlaysRow.16 w)/\ad enc F J (Z Rows.housePlaysSpec) false w args) (Rows.housePlaysSpec.post enc F J false true false false):=by
 refine Ll (C:=Y) (X:=λw _=>ac F Rows.housePlaysRow.16 w) (λ_ _ _ hh h=>h.of_heap hh) hown d K aa
  (ChangeSpec.witness_shaped (enc:=enc) (C:=Y) (os:=os) (X:=λw _=>ac F Rows.housePlaysRow.16 w) false (World.doorLaid F 40000 os) #[.int .i64 0,.slice none 0 0,.int .i64 0] 8 rfl (World.shaped_of_ZipB K K) K K K (QS os _)) ?_;intro W base args ds gs r c R hL y;have a:∀(j:Nat) t v,J.4[j]?=some t->args[j]?=some v->Value.okWide F W .any base t v:=c;have A:=R;obtain⟨p,q,k,hV,rfl,a4,a5⟩:=R;have Q:DataW.TrodAll enc F W 0 (λ_=>true) true J.4.1 args.1 ds p:=k;rw[ab]at Q a;obtain⟨v0,a6,d0,a0,p0,q0,B,rfl,rfl,P,r0⟩:=trodAll_cons Q;obtain⟨U,a7,d1,a2,p1,q1,rfl,rfl,rfl,s,r1⟩:=trodAll_cons r0;obtain⟨v2,a8,d2,a3,p2,q2,rfl,rfl,rfl,u,r2⟩:=trodAll_cons r1;obtain⟨rfl,rfl,rfl⟩:=trodAll_nil r2;obtain rfl:args=#[v0,U,v2]:=by cases args;simp_all
 obtain⟨rfl,rfl⟩:=trodVars_none hV;have L:∀x∈p0,x.block<W.1.size:=by obtain⟨m,g⟩:=P;exact DataW.trod_lt m _ _ _ g
 have M:∀x∈p1,x.block<W.1.size:=by obtain⟨m,g⟩:=s;exact DataW.trod_lt m _ _ _ g
 have N:∀x∈p2,x.block<W.1.size:=by obtain⟨m,g⟩:=u;exact DataW.trod_lt m _ _ _ g
 obtain⟨id,rfl⟩:=okWide_int I (a 0 3 v0 rfl rfl);obtain⟨V,S,i,rfl⟩:=okWide_slice Tryz.underlying33 (a 1 33 U rfl rfl);obtain⟨b,rfl⟩:=okWide_int I (a 2 3 v2 rfl rfl);have f:-9223372036854775808<=b/\b<=9223372036854775807:=by obtain⟨m,g⟩:=u;obtain⟨z,e,-,hz⟩:=DataW.trod_int I g;simp[Value.cells]at e;subst e;exact Ty hz
 obtain⟨l,rfl,D,o⟩:=SN s;obtain⟨n,hG⟩:=Ti hL y;clear k c;refine(I9 id b V l i W n hG D o f).mono λe W' ⟨he,bel⟩=>?_;subst he;exact⟨_,rfl,_,_,_,[],_,[],A,trodAll_mk1 (shut_bool Tryz.underlying4 _),
  (G (Below.trod I8 K (of_decide_eq_true K) P bel L)
    (G (Below.trod I8 K (of_decide_eq_true K) s bel M)
      (G (Below.trod I8 K (of_decide_eq_true K) u bel N) trodAll_mk0))),rfl,bel.frame _,λh=>by cases h⟩
theorem QY:Rows.HousePlaysSaid:=OpenClaim.holds_of_wide 4 J rfl rfl rfl rfl rfl rfl rfl ⟨rfl,rfl,rfl,rfl,rfl⟩ rfl rfl rfl rfl rfl K aa Xg (of_decide_eq_true K) (by unfold Func.isWrapper;first|(rw[if_pos (by decide+kernel)];kernel_rfl)|(rw[if_neg (by decide+kernel)];exact⟨rfl,rfl⟩)) (λos a H enc _=>Gb os a H enc)
theorem housePlays_card:Rows.HousePlaysCardSaid:=Claim7.holds_tied_plain_at .later [] [.data,.data,.data,.handle,.sentinel,.sentinel,.listed,.data] true (true, "0bbd6075070e3f57ef2edd6340f62175bf8fbdd5ea6dd2352cbbb56a888e3076") true QY (λ_ h=>by cases h) K (λ_ h=>by cases h) housePlays_row_tie rfl ⟨rfl,rfl⟩ K rfl (λf fn d b=>by
 obtain rfl:f=4:=E ((show F.funcNamed "waybill/waybilllaw.HousePlays" =some 4 by kernel_rfl).symm.trans d)|>.symm;obtain rfl:fn=J:=(E (aa.symm.trans b)).symm;exact⟨K,λj t c=>by
  rw[ab]at c;have e:t∈[3,33,3]:=by simpa using Array.mem_of_getElem? c
  have a:([3,33,3].all λu=>!Tryz.prog.wantsStandIn u)=true:=K;exact(show F.wantsStandIn t=false by simpa using List.all_eq_true.1 a t e)⟩)
 K
#print axioms housePlays_card
end Go.Proofs.YtkabgmdjfiidhaaGreatDoor
