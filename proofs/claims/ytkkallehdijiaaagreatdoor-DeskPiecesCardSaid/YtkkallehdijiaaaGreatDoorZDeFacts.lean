import Derived.Test.YtkkallehdijiaaaGreatDoorZgA
import Derived.Test.YtkkallehdijiaaaGreatDoorRows
import Derived.LaidMore
import Derived.LaidHandle
import Derived.Lay
import Derived.ProofKit
import Derived.JoinedOf
set_option linter.all false
set_option maxHeartbeats 0
set_option maxRecDepth 99999
open Go.Proofs.YtkkallehdijiaaaGreatDoor.Rows renaming laid_unicode_utf8_first->F,deskPiecesRow->J,laid_internal_strconv_uint64pow10->G,laid_unicode_utf8_acceptRanges->E,laid_math_bits_deBruijn32tab->Y,laid_math_bits_deBruijn64tab->C,laid_unicode_White_Space->T,laid_strings_asciiSpace->a,laid_strconv_ErrSyntax->b,laid_strconv_ErrRange->c,deskPiecesSpec->e
open Go.Proofs.Tryz renaming prog->Z
open Go.World renaming doorLaid->I
open Go.DataW renaming laidRun->d
open Bool renaming true->f
namespace Go.Proofs.YtkkallehdijiaaaGreatDoor
section
def Q2p:List (String×DataW Unit):=[("math/bits.deBruijn32tab",Y),("math/bits.deBruijn64tab",C),("internal/strconv.uint64pow10",G),("unicode/utf8.acceptRanges",E),("strconv.ErrRange",c),("strconv.ErrSyntax",b),("unicode.White_Space",T),("strings.asciiSpace",a)]
theorem f1(os:Os):(I Z 40000 os).layFits Z [("unicode/utf8.first",F)] ([7,8,1,3,10,17,9,18,5,20,19,0]:List Nat)=f:=K
theorem f2(os:Os):(I Z 40000 os).layIfaces Z [("unicode/utf8.first",F)] ((I Z 40000 os).layVars Z [("unicode/utf8.first",F)])=f:=K
theorem g1(os:Os):(d Z ((I Z 40000 os).layVars Z [("unicode/utf8.first",F)]) 8 (Q2p.map (·.1))).map (·.1)=some Q2p:=K
theorem g2(os:Os):(d Z ((I Z 40000 os).layVars Z [("unicode/utf8.first",F)]) 8 (Q2p.map (·.1))).map (λx=>nodupB (x.2.map MemPlace.codeOf))=some f:=K
theorem g3(os:Os):(d Z ((I Z 40000 os).layVars Z [("unicode/utf8.first",F)]) 8 (Q2p.map (·.1))).map (λx=>laidRowsB Z ((I Z 40000 os).layVars Z [("unicode/utf8.first",F)]) x.2)=some f:=K
theorem g4(os:Os):(d Z ((I Z 40000 os).layVars Z [("unicode/utf8.first",F)]) 8 (Q2p.map (·.1))).map (λx=>x.2.all λp=>([7,8,1,3,10,17,9,18,5,20,19,0]:List Nat).contains p.block)=some f:=K
def Q2s:List (String×DataW Unit):=[("math/bits.deBruijn32tab",Y),("math/bits.deBruijn64tab",C),("internal/strconv.uint64pow10",G),("unicode/utf8.acceptRanges",E),("strconv.ErrRange",c),("strconv.ErrSyntax",b),("unicode.White_Space",T),("strings.asciiSpace",a),("unicode/utf8.first",F)]
theorem e1:(Q2s.filter λx=>["unicode/utf8.first"].contains x.1)=[("unicode/utf8.first",F)]:=by simp[Q2s,List.filter]
theorem e2:(Q2s.filter λx=>!["unicode/utf8.first"].contains x.1)=Q2p:=by simp[Q2s,Q2p,List.filter]
theorem Q2x(os:Os):laidMet Z Q2s ((I Z 40000 os).layVars Z [("unicode/utf8.first",F)]):=laidMet_layVars (w0:=I Z 40000 os) ["unicode/utf8.first"] ([7,8,1,3,10,17,9,18,5,20,19,0]:List Nat) (by rw[e1]) (by rw[e1];exact f1 os) (by rw[e1];exact f2 os) (by rw[e2];exact LaidIn.of_run _ 8 (g1 os) (g2 os) (g3 os) (g4 os))
theorem Q2A(os:Os)(args:Array Value):laidMet Z Q2s (((I Z 40000 os).layVars Z [("unicode/utf8.first",F)]).forCall (λ_ _=>0) ⟨#[],args,[]⟩).memory:=(Q2x os).of_heap (by simp[World.memory,World.forCall,Input.heap])
theorem Q2E(os:Os)(args:Array Value):laidMetH Z J.16 (((I Z 40000 os).layVars Z [("unicode/utf8.first",F)]).forCall (λ_ _=>0) ⟨#[],args,[]⟩).memory:=laidMetH_of_parts3 (fuel:=8) (Q2A os args) K (K)
theorem Q2V:(J.34==Z.inPlace 3)=f:=K
theorem Q2W:(J.35==Z.unfollowed 3)=f:=K
theorem Q2X:(J.36==Z.recurses 3)=f:=K
theorem Q2Y:(J.37==Z.varsNamed 3)=f:=K
theorem Q2Z:namedTie Z J.37 e.2=f:=K
theorem Q2K:joinedFacts Z 3 Tryz.f3 e J=f:=by unfold joinedFacts;rw[Q2V,Q2W,Q2X,Q2Y,Q2Z];kernel_rfl
end
end Go.Proofs.YtkkallehdijiaaaGreatDoor
