import Derived.Test.YtgkcfpbndgfdlaaGreatDoorZgA
import Derived.Test.YtgkcfpbndgfdlaaGreatDoorProg
import Derived.Shelf.Strings.Cut
import Derived.Shelf.Strings.Prefix
import Derived.Shelf.Strings.Fields
import Derived.Shelf.Slices.Turned
import Derived.Shelf.Slices.Clone
set_option linter.all false
open Go.Proofs.Tryz renaming prog->F,underlying3->I,underlying4->J,zeroValue3->G,zeroValue4->E,underlying9->C,sizeOf3->T,sizeOf4->g,zeroValue9->i,isAgg3->k,isAgg4->o,underlying231->q,sizeOf9->r,underlying68->t,zeroValue231->u,isAgg9->v,underlying5->x,zeroValue68->y,zeroValue5->z,sizeOf231->A,isAgg231->B,sizeOf68->D,isAgg68->H,sizeOf5->L,isAgg5->M
open Option renaming some->Z,none->P
open Go.Value renaming string->Y,slice->N,int->Q
open Go.Shelf renaming Ren->h
open Go.Proofs.Tryz
namespace Go.Proofs
def Tryz.lays145_ren:h:=⟨λ|145=>165|220=>190|219=>210|217=>225|225=>226|224=>227|267=>228|266=>239|314=>240|n=>n,λ|9=>9|4=>4|59=>215|3=>3|5=>5|46=>68|146=>296|51=>231|n=>n,λ|1=>4|n=>n⟩
theorem Tryz.lays145:Go.Proofs.Lays.n145 F Tryz.lays145_ren:={mixed:=K,f145:=func165.trans (congrArg Z K),f217:=func225.trans (congrArg Z K),f219:=func210.trans (congrArg Z K),f220:=func190.trans (congrArg Z K),f224:=func227.trans (congrArg Z K),f225:=func226.trans (congrArg Z K),f266:=func239.trans (congrArg Z K),f267:=func228.trans (congrArg Z K),f314:=func240.trans (congrArg Z K),t3:=I,a3:=k,z3:=T,v3:=G,t4:=J,a4:=o,z4:=g,v4:=E,t5:=x,a5:=M,z5:=L,v5:=z,t9:=C,a9:=v,z9:=r,v9:=i,t46:=t,a46:=H,z46:=D,v46:=y,t51:=q,a51:=B,z51:=A,v51:=u,t59:=underlying215,a59:=isAgg215,z59:=sizeOf215,v59:=zeroValue215,t146:=underlying296,a146:=isAgg296,z146:=sizeOf296,v146:=zeroValue296,g1:=by kernel_rfl}
open Go.RowKit Go.Lib in
theorem Tryz.strings_Cut(s a:ByteArray)(m:Int)(w:World)(hs:s.size<4294967281)(hm:w.cell? ⟨4,0,P⟩=Z (Q .i64 m)):Calls F 165 #[Y s,Y a] w λe w'=>e=.returned (.tuple #[Y ⟨(Lib.cut s.1.1 a.1.1).1.toArray⟩,Y ⟨(Lib.cut s.1.1 a.1.1).2.1.toArray⟩,.bool (Lib.cut s.1.1 a.1.1).2.2])/\∃n,w'=w.drewN n:=Any.strings_Cut Tryz.lays145 s a m w hs hm
def Tryz.lays100_ren:h:=⟨λ|100=>150|207=>170|n=>n,λ|9=>9|4=>4|3=>3|n=>n,λ|n=>n⟩
theorem Tryz.lays100:Go.Proofs.Lays.n100 F Tryz.lays100_ren:={mixed:=K,f100:=func150.trans (congrArg Z K),f207:=func170.trans (congrArg Z K),t3:=I,a3:=k,z3:=T,v3:=G,t4:=J,a4:=o,z4:=g,v4:=E,t9:=C,a9:=v,z9:=r,v9:=i}
open Go.RowKit Go.Lib in
theorem Tryz.strings_HasSuffix(s p:ByteArray)(w:World)(hs:s.size<=9223372036854775807):Calls F 150 #[Y s,Y p] w λe w'=>e=.returned (.bool (Lib.hasSuffix s.1.1 p.1.1))/\w'=w:=Any.strings_HasSuffix Tryz.lays100 s p w hs
def Tryz.lays157_ren:h:=⟨λ|157=>166|229=>191|199=>192|261=>211|311=>229|312=>230|n=>n,λ|9=>9|31=>150|3=>3|5=>5|4=>4|119=>234|0=>0|40=>236|152=>257|21=>21|154=>259|51=>231|141=>261|196=>281|193=>278|198=>284|49=>282|194=>279|201=>287|226=>298|46=>68|227=>299|n=>n,λ|0=>1|6=>2|n=>n⟩
theorem Tryz.lays157:Go.Proofs.Lays.n157 F Tryz.lays157_ren:={mixed:=K,f157:=func166.trans (congrArg Z K),f199:=func192.trans (congrArg Z K),f229:=func191.trans (congrArg Z K),f261:=func211.trans (congrArg Z K),f311:=func229.trans (congrArg Z K),f312:=func230.trans (congrArg Z K),t0:=underlying0,a0:=isAgg0,z0:=sizeOf0,v0:=zeroValue0,t3:=I,a3:=k,z3:=T,v3:=G,t4:=J,a4:=o,z4:=g,v4:=E,t5:=x,a5:=M,z5:=L,v5:=z,t9:=C,a9:=v,z9:=r,v9:=i,t21:=underlying21,a21:=isAgg21,z21:=sizeOf21,v21:=zeroValue21,t31:=underlying150,a31:=isAgg150,z31:=sizeOf150,v31:=zeroValue150,t40:=underlying236,a40:=isAgg236,z40:=sizeOf236,v40:=zeroValue236,t46:=t,a46:=H,z46:=D,v46:=y,t49:=underlying282,a49:=isAgg282,z49:=sizeOf282,v49:=zeroValue282,t51:=q,a51:=B,z51:=A,v51:=u,t119:=underlying234,a119:=isAgg234,z119:=sizeOf234,t141:=underlying261,a141:=isAgg261,z141:=sizeOf261,v141:=zeroValue261,t152:=underlying257,a152:=isAgg257,z152:=sizeOf257,v152:=zeroValue257,t154:=underlying259,a154:=isAgg259,z154:=sizeOf259,v154:=zeroValue259,t193:=underlying278,a193:=isAgg278,z193:=sizeOf278,v193:=zeroValue278,t194:=underlying279,a194:=isAgg279,z194:=sizeOf279,v194:=zeroValue279,t196:=underlying281,a196:=isAgg281,z196:=sizeOf281,v196:=zeroValue281,t198:=underlying284,a198:=isAgg284,z198:=sizeOf284,v198:=zeroValue284,t201:=underlying287,a201:=isAgg287,z201:=sizeOf287,v201:=zeroValue287,t226:=underlying298,a226:=isAgg298,z226:=sizeOf298,v226:=zeroValue298,t227:=underlying299,a227:=isAgg299,z227:=sizeOf299,v227:=zeroValue299,g0:=K,g6:=by kernel_rfl}
open Go.RowKit Go.Lib in
theorem Tryz.strings_Fields(s:ByteArray)(w:World)(hs:s.size<4294967281)(a:∀(j:Nat) b,s.1.1[j]?=Z b->b.toNat<128)(c:Lib.TabIs F w "strings.asciiSpace" .u8 Lib.asciiSpaceTab):Calls F 166 #[Y s] w λe w'=>e=.returned (N (Z ⟨w.1.size,0,P⟩) (Lib.fields s.1.1).length (Lib.fields s.1.1).length)/\w'=w.alloc (.cells ((Lib.fields s.1.1).map λl=>Y ⟨l.toArray⟩).toArray 9):=Any.strings_Fields Tryz.lays157 K K s w hs a c
def Tryz.laysNm215_ren:h:=⟨λ|15=>135|n=>n,λ|22=>34|3=>3|4=>4|n=>n,λ|n=>n⟩
theorem Tryz.laysNm215:Go.Proofs.Lays2.n15 F Tryz.laysNm215_ren:={mixed:=K,f15:=func135.trans (congrArg Z K),t3:=I,a3:=k,z3:=T,v3:=G,t4:=J,a4:=o,z4:=g,v4:=E,t22:=underlying34,a22:=isAgg34,z22:=sizeOf34,v22:=zeroValue34,i3:=by kernel_rfl}
open Go.RowKit Go.Lib in
theorem Tryz.slices_Clone_int(b off n c:Nat)(d:List Int)(w:World)(f:n<=d.length)(a:n*8<=140737488355328)(hc:∀j,j<d.length->w.cell? ⟨b,off+j,P⟩=Z (Q .i64 (d.getD j 0))):Calls F 135 #[N (Z ⟨b,off,P⟩) n c] w λe w'=>∃v',e=.returned v'/\w'.ownsRow w.1.size 3 1 v' n ((d.take n).map (Q .i64))/\v'≠N P 0 0/\Below w.1.size w w':=Any.slices_Clone_int Tryz.laysNm215 b off n c d w f a hc
end Go.Proofs
