import Derived.Test.YtkabgmdjfiidhaaGreatDoorZHOpen
import Derived.Lib.SlKeysI
namespace Go.Proofs.YtkabgmdjfiidhaaGreatDoor
open Go.RowKit Go.Maps
def K6(v:Value):Option (DataW Unit×List MemPlace):=match v with
 |.bool b=>some (.lit (.bool b),[])
 |_=>none
theorem IR{v:Value}{b:Bool}{ps:List MemPlace}(h:K6 v=some (.lit (.bool b),ps)):v=.bool b:=by
 unfold K6 at h;split at h
 ·injection h with h;injection h with h1 h2;injection h1 with h1;injection h1 with h1;rw[h1]
 ·cases h
theorem TI:Keyed Tryz.prog 3:=int_keyed Tryz.underlying3
theorem Qb(w:World):(zeroValue 4).run Tryz.prog w=.ok (.bool false) w:=K
def MapT(w:World)(B n:Nat)(a:Int->Prop):Prop:=∃D:DataW Unit,w.ownsMap Tryz.prog 3 K6 B n D/\(∀i,a i->D.atKey (.int .i64 i) (.lit (.bool false))=.lit (.bool true))/\∀i,has D (.int .i64 i)=true↔a i
theorem MapT.made(w:World):MapT (w.alloc (.map #[] 0)) w.1.size 0 (λ_=>False):=⟨.map [],World.ownsMap_made w Tryz.prog 3 K6,λ_ h=>h.elim,λ_=>by simp[has]⟩
theorem MapT.on{w w':World}{B n:Nat}{g:Int->Prop}(h:MapT w B n g)(f:w'.1[B]?=w.1[B]?):MapT w' B n g:=by obtain⟨D,⟨b,a,c,d⟩,e⟩:=h;exact⟨D,⟨b,a,f.trans c,d⟩,e⟩
theorem MapT.obj{w:World}{B n:Nat}{f:Int->Prop}(h:MapT w B n f):∃b a,w.1[B]?=some (.map b a):=by obtain⟨D,⟨b,a,c,d⟩,e⟩:=h;exact⟨b,a,c⟩
theorem MapT.lt{w:World}{B n:Nat}{d:Int->Prop}(h:MapT w B n d):B<w.1.size:=by obtain⟨b,c,a⟩:=h.obj;exact(Array.getElem?_eq_some_iff.1 a).1
theorem MapT.cong{w:World}{B n:Nat}{d T':Int->Prop}(h:MapT w B n d)(e:∀i,d i↔T' i):MapT w B n T':=by obtain⟨D,a,b,c⟩:=h;exact⟨D,a,λi hi=>b i ((e i).2 hi),λi=>(c i).trans (e i)⟩
end Go.Proofs.YtkabgmdjfiidhaaGreatDoor
