import Derived.Test.YtkabgmdjfiidhaaGreatDoorZgA
import Derived.Test.YtkabgmdjfiidhaaGreatDoorProg
import Derived.Shelf.Strings.Cut
import Derived.Shelf.Strings.Prefix
import Derived.Shelf.Strings.Fields
import Derived.Shelf.Slices.Turned
import Derived.Shelf.Slices.Clone
open Go.Proofs.Tryz renaming prog->F,underlying3->I,underlying4->J,zeroValue3->G,zeroValue4->E,underlying9->C,sizeOf3->T,sizeOf4->h,zeroValue9->k,isAgg3->o,isAgg4->q,underlying302->r,sizeOf9->t,underlying43->u,zeroValue302->v,isAgg9->x,underlying5->y,zeroValue43->z,zeroValue5->A,sizeOf302->B,isAgg302->D,sizeOf43->H,isAgg43->L,sizeOf5->M,isAgg5->N
open Option renaming some->Z,none->Q
open Go.Value renaming string->Y,slice->P,int->R
open Go.Shelf renaming Ren->i
open Go.Proofs.Tryz
namespace Go.Proofs
def Tryz.lays145_ren:i:=⟨λ|145=>175|220=>229|219=>211|217=>225|225=>267|224=>268|267=>269|266=>279|314=>302|n=>n,λ|9=>9|4=>4|59=>239|3=>3|5=>5|46=>43|146=>353|51=>302|n=>n,λ|1=>2|n=>n⟩
theorem Tryz.lays145:Go.Proofs.Lays.n145 F Tryz.lays145_ren:={mixed:=K,f145:=func175.trans (congrArg Z K),f217:=func225.trans (congrArg Z K),f219:=func211.trans (congrArg Z K),f220:=func229.trans (congrArg Z K),f224:=func268.trans (congrArg Z K),f225:=func267.trans (congrArg Z K),f266:=func279.trans (congrArg Z K),f267:=func269.trans (congrArg Z K),f314:=func302.trans (congrArg Z K),t3:=I,a3:=o,z3:=T,v3:=G,t4:=J,a4:=q,z4:=h,v4:=E,t5:=y,a5:=N,z5:=M,v5:=A,t9:=C,a9:=x,z9:=t,v9:=k,t46:=u,a46:=L,z46:=H,v46:=z,t51:=r,a51:=D,z51:=B,v51:=v,t59:=underlying239,a59:=isAgg239,z59:=sizeOf239,v59:=zeroValue239,t146:=underlying353,a146:=isAgg353,z146:=sizeOf353,v146:=zeroValue353,g1:=by kernel_rfl}
open Go.RowKit Go.Lib in
theorem Tryz.strings_Cut(s a:ByteArray)(m:Int)(w:World)(c:s.size<4294967281)(b:w.cell? ⟨2,0,Q⟩=Z (R .i64 m)):Calls F 175 #[Y s,Y a] w λe w'=>e=.returned (.tuple #[Y ⟨(Lib.cut s.1.1 a.1.1).1.toArray⟩,Y ⟨(Lib.cut s.1.1 a.1.1).2.1.toArray⟩,.bool (Lib.cut s.1.1 a.1.1).2.2])/\∃n,w'=w.drewN n:=Any.strings_Cut Tryz.lays145 s a m w c b
def Tryz.lays100_ren:i:=⟨λ|100=>173|207=>228|n=>n,λ|9=>9|4=>4|3=>3|n=>n,λ|n=>n⟩
theorem Tryz.lays100:Go.Proofs.Lays.n100 F Tryz.lays100_ren:={mixed:=K,f100:=func173.trans (congrArg Z K),f207:=func228.trans (congrArg Z K),t3:=I,a3:=o,z3:=T,v3:=G,t4:=J,a4:=q,z4:=h,v4:=E,t9:=C,a9:=x,z9:=t,v9:=k}
open Go.RowKit Go.Lib in
theorem Tryz.strings_HasSuffix(s p:ByteArray)(w:World)(a:s.size<=9223372036854775807):Calls F 173 #[Y s,Y p] w λe w'=>e=.returned (.bool (Lib.hasSuffix s.1.1 p.1.1))/\w'=w:=Any.strings_HasSuffix Tryz.lays100 s p w a
def Tryz.lays157_ren:i:=⟨λ|157=>176|229=>230|199=>231|261=>284|311=>310|312=>311|n=>n,λ|9=>9|31=>90|3=>3|5=>5|4=>4|119=>295|0=>0|40=>297|152=>335|21=>21|154=>337|51=>302|141=>339|196=>372|193=>369|198=>375|49=>373|194=>370|201=>378|226=>389|46=>43|227=>390|n=>n,λ|0=>1|6=>7|n=>n⟩
theorem Tryz.lays157:Go.Proofs.Lays.n157 F Tryz.lays157_ren:={mixed:=K,f157:=func176.trans (congrArg Z K),f199:=func231.trans (congrArg Z K),f229:=func230.trans (congrArg Z K),f261:=func284.trans (congrArg Z K),f311:=func310.trans (congrArg Z K),f312:=func311.trans (congrArg Z K),t0:=underlying0,a0:=isAgg0,z0:=sizeOf0,v0:=zeroValue0,t3:=I,a3:=o,z3:=T,v3:=G,t4:=J,a4:=q,z4:=h,v4:=E,t5:=y,a5:=N,z5:=M,v5:=A,t9:=C,a9:=x,z9:=t,v9:=k,t21:=underlying21,a21:=isAgg21,z21:=sizeOf21,v21:=zeroValue21,t31:=underlying90,a31:=isAgg90,z31:=sizeOf90,v31:=zeroValue90,t40:=underlying297,a40:=isAgg297,z40:=sizeOf297,v40:=zeroValue297,t46:=u,a46:=L,z46:=H,v46:=z,t49:=underlying373,a49:=isAgg373,z49:=sizeOf373,v49:=zeroValue373,t51:=r,a51:=D,z51:=B,v51:=v,t119:=underlying295,a119:=isAgg295,z119:=sizeOf295,t141:=underlying339,a141:=isAgg339,z141:=sizeOf339,v141:=zeroValue339,t152:=underlying335,a152:=isAgg335,z152:=sizeOf335,v152:=zeroValue335,t154:=underlying337,a154:=isAgg337,z154:=sizeOf337,v154:=zeroValue337,t193:=underlying369,a193:=isAgg369,z193:=sizeOf369,v193:=zeroValue369,t194:=underlying370,a194:=isAgg370,z194:=sizeOf370,v194:=zeroValue370,t196:=underlying372,a196:=isAgg372,z196:=sizeOf372,v196:=zeroValue372,t198:=underlying375,a198:=isAgg375,z198:=sizeOf375,v198:=zeroValue375,t201:=underlying378,a201:=isAgg378,z201:=sizeOf378,v201:=zeroValue378,t226:=underlying389,a226:=isAgg389,z226:=sizeOf389,v226:=zeroValue389,t227:=underlying390,a227:=isAgg390,z227:=sizeOf390,v227:=zeroValue390,g0:=K,g6:=by kernel_rfl}
open Go.RowKit Go.Lib in
theorem Tryz.strings_Fields(s:ByteArray)(w:World)(d:s.size<4294967281)(a:∀(j:Nat) b,s.1.1[j]?=Z b->b.toNat<128)(c:Lib.TabIs F w "strings.asciiSpace" .u8 Lib.asciiSpaceTab):Calls F 176 #[Y s] w λe w'=>e=.returned (P (Z ⟨w.1.size,0,Q⟩) (Lib.fields s.1.1).length (Lib.fields s.1.1).length)/\w'=w.alloc (.cells ((Lib.fields s.1.1).map λl=>Y ⟨l.toArray⟩).toArray 9):=Any.strings_Fields Tryz.lays157 K K s w d a c
def Tryz.laysNm215_ren:i:=⟨λ|15=>141|n=>n,λ|22=>64|3=>3|4=>4|n=>n,λ|n=>n⟩
theorem Tryz.laysNm215:Go.Proofs.Lays2.n15 F Tryz.laysNm215_ren:={mixed:=K,f15:=func141.trans (congrArg Z K),t3:=I,a3:=o,z3:=T,v3:=G,t4:=J,a4:=q,z4:=h,v4:=E,t22:=underlying64,a22:=isAgg64,z22:=sizeOf64,v22:=zeroValue64,i3:=by kernel_rfl}
open Go.RowKit Go.Lib in
theorem Tryz.slices_Clone_int(b off n c:Nat)(d:List Int)(w:World)(g:n<=d.length)(a:n*8<=140737488355328)(f:∀j,j<d.length->w.cell? ⟨b,off+j,Q⟩=Z (R .i64 (d.getD j 0))):Calls F 141 #[P (Z ⟨b,off,Q⟩) n c] w λe w'=>∃v',e=.returned v'/\w'.ownsRow w.1.size 3 1 v' n ((d.take n).map (R .i64))/\v'≠P Q 0 0/\Below w.1.size w w':=Any.slices_Clone_int Tryz.laysNm215 b off n c d w g a f
end Go.Proofs
