import Derived.Test.YtkkallehdijiaaaGreatDoorZgA
import Derived.Shelf.Strings.Search3
import Derived.Shelf.Strings.Prefix
import Derived.Shelf.Strings.FieldsFuncAny
import Derived.Test.YtkkallehdijiaaaGreatDoorProg
set_option linter.all false
open Go.Lib renaming goFieldsP->F
open Go.Proofs.Tryz renaming prog->Z,underlying3->J,underlying4->G,underlying9->E,zeroValue3->Y,zeroValue4->C,zeroValue9->T,sizeOf3->f,sizeOf4->h,sizeOf9->i,isAgg3->k,isAgg4->l,isAgg9->m
open Go.Value renaming string->I
open Option renaming some->d
open Go.Shelf renaming Ren->j
open Go.Proofs.Tryz
namespace Go.Proofs
open Go.Shelf
def Tryz.lays143_ren:j:=⟨λ|143=>81|219=>138|217=>198|225=>199|224=>200|267=>201|266=>249|314=>250|n=>n,λ|9=>9|3=>3|4=>4|5=>5|46=>185|146=>274|51=>183|n=>n,λ|1=>4|n=>n⟩
theorem Tryz.lays143:Go.Proofs.Lays.n143 Z Tryz.lays143_ren:={mixed:=K,f143:=func81.trans (congrArg d K),f217:=func198.trans (congrArg d K),f219:=func138.trans (congrArg d K),f224:=func200.trans (congrArg d K),f225:=func199.trans (congrArg d K),f266:=func249.trans (congrArg d K),f267:=func201.trans (congrArg d K),f314:=func250.trans (congrArg d K),t3:=J,a3:=k,z3:=f,v3:=Y,t4:=G,a4:=l,z4:=h,v4:=C,t5:=underlying5,a5:=isAgg5,z5:=sizeOf5,v5:=zeroValue5,t9:=E,a9:=m,z9:=i,v9:=T,t46:=underlying185,a46:=isAgg185,z46:=sizeOf185,v46:=zeroValue185,t51:=underlying183,a51:=isAgg183,z51:=sizeOf183,v51:=zeroValue183,t146:=underlying274,a146:=isAgg274,z146:=sizeOf274,v146:=zeroValue274,g1:=by kernel_rfl}
def Tryz.lays102_ren:j:=⟨λ|102=>15|209=>44|207=>82|n=>n,λ|9=>9|4=>4|3=>3|n=>n,λ|n=>n⟩
theorem Tryz.lays102:Go.Proofs.Lays.n102 Z Tryz.lays102_ren:={mixed:=K,f102:=func15.trans (congrArg d K),f207:=func82.trans (congrArg d K),f209:=func44.trans (congrArg d K),t3:=J,a3:=k,z3:=f,v3:=Y,t4:=G,a4:=l,z4:=h,v4:=C,t9:=E,a9:=m,z9:=i,v9:=T}
def Tryz.lays229_ren:j:=⟨λ|229=>46|n=>n,λ|9=>9|40=>66|31=>64|152=>114|3=>3|0=>0|4=>4|21=>21|154=>116|n=>n,λ|n=>n⟩
theorem Tryz.lays229:Go.Proofs.Lays.n229 Z Tryz.lays229_ren:={mixed:=K,f229:=func46.trans (congrArg d K),t0:=underlying0,a0:=isAgg0,z0:=sizeOf0,v0:=zeroValue0,t3:=J,a3:=k,z3:=f,v3:=Y,t4:=G,a4:=l,z4:=h,v4:=C,t9:=E,a9:=m,z9:=i,v9:=T,t21:=underlying21,a21:=isAgg21,z21:=sizeOf21,v21:=zeroValue21,t31:=underlying64,a31:=isAgg64,z31:=sizeOf64,v31:=zeroValue64,t40:=underlying66,a40:=isAgg66,z40:=sizeOf66,v40:=zeroValue66,t152:=underlying114,a152:=isAgg114,z152:=sizeOf114,v152:=zeroValue114,t154:=underlying116,a154:=isAgg116,z154:=sizeOf116,v154:=zeroValue116}
open Go.RowKit Go.Lib in
theorem Tryz.strings_Index_one(s:ByteArray)(c:UInt8)(w:World):Calls Z 81 #[I s,I ⟨#[c]⟩] w λe w'=>e=.returned (.int .i64 (Lib.indexByte s.1.1 c))/\w'=w:=Any.strings_Index_one Tryz.lays143 s c w
open Go.RowKit Go.Lib in
theorem Tryz.strings_TrimSuffix(s p:ByteArray)(w:World)(hs:s.size<=9223372036854775807):Calls Z 15 #[I s,I p] w λe w'=>e=.returned (I ⟨(Lib.trimSuffix s.1.1 p.1.1).toArray⟩)/\w'=w:=Any.strings_TrimSuffix Tryz.lays102 s p w hs
open Go.RowKit Go.Lib in
theorem Tryz.strings_FieldsFunc_runes(g:Nat)(lb:Array Value)(a:∀args w,(callFunc g args).run Z w=.ok (.enter g args) w)(p:Nat->Bool)(s:ByteArray)(w:World)(hs:s.size<=4294967296)(b:PredAtRunes Z g lb p w):Calls Z 46 #[I s,.func (.func g) #[] lb] w λe w'=>∃A,e=.returned (.slice (d ⟨A,0,none⟩) (F p s).length (F p s).length)/\w.1.size<=A/\w'.ownsRow w.1.size 9 1 (.slice (d ⟨A,0,none⟩) (F p s).length (F p s).length) (F p s).length ((F p s).map I)/\Below w.1.size w w':=Any.strings_FieldsFunc_runes Tryz.lays229 g lb a p s w hs b K (K)
end Go.Proofs
