import Derived.Test.YtkabgmdjfiidhaaGreatDoorZList
import Derived.Test.YtkabgmdjfiidhaaGreatDoorZShelfA
import Derived.Lib.AppendIntMem
import Derived.Lib.Hide
import Derived.Lib.AppendStr
import Derived.Lib.OthersKept
import Derived.Laws.IdiomStrings
import Derived.OwnWalk
import Derived.BigCall
import Derived.Lib.Join
set_option maxHeartbeats 0
set_option maxRecDepth 99999
open Go.Lib renaming byteCells->F,hid->I,itoa_length_le->J,itoa->C,pow10Tab->ac,TabBelow->ad,strCells->ag
open Go.Proofs.Tryz renaming prog->Z,underlying264->ab,underlying9->ae
open Go renaming Value->G,World->T,heap_alloc_new->af,wpList->ah,Calls->ai
open Go.Value renaming string->E,int->Y,slice->aj
open Go.RowKit.Hid renaming out->aa
namespace Go.Proofs.YtkabgmdjfiidhaaGreatDoor
section
open Go.RowKit
def BL(m:Mg):List UInt8:=C m.1++[32]++C m.2++[32]++m.3.1.1++[32]++m.4.1.1++[32]++C m.5
structure BufAt(B X:Nat)(bx:Array G)(v:G)(l:List UInt8)(w0 w:T):Prop where
 own:w.ownsRow B 5 1 v l.length (F l)
 below:Below B w0 w
 le:B<=w.1.size
 box:w.1[X]?=some (.cells bx 84 (0,0))
theorem BufAt.ne{B X:Nat}{bx:Array G}{v:G}{l:List UInt8}{w0 w:T}(h:BufAt B X bx v l w0 w):some X≠v.ownBlock:=by
 intro e;rcases h.1.2 with⟨rfl,-⟩|⟨g,cap,cur,rfl,-,a,-⟩
 ·cases e
 ·simp only[Value.ownBlock]at e;cases e;have:=h.4.symm.trans a;simp at this
theorem BufAt.lt{B X:Nat}{bx:Array G}{v:G}{l:List UInt8}{w0 w:T}(h:BufAt B X bx v l w0 w):X<w.1.size:=(Array.getElem?_eq_some_iff.1 h.4).1
theorem BufAt.cell{B X:Nat}{bx:Array G}{v:G}{l:List UInt8}{w0 w:T}(h:BufAt B X bx v l w0 w)(i:Nat)(x:G)(hx:bx[i]?=some x):w.cell? ⟨X,i,none⟩=some x:=by simp[World.cell?,h.4,hx]
theorem BufAt.alloc{B X:Nat}{bx:Array G}{v:G}{l:List UInt8}{w0 w:T}(h:BufAt B X bx v l w0 w)(o:Obj):BufAt B X bx v l w0 (w.alloc o):=⟨h.1.alloc o,h.2.alloc h.3 o,by have:=h.3;simp;omega,(Below.heap_alloc w o X h.lt).trans h.4⟩
theorem BufAt.grown{B X:Nat}{bx:Array G}{v c:G}{l b:List UInt8}{w0 w w':T}(h:BufAt B X bx v l w0 w)(e:w'.ownsRow B 5 1 c b.length (F b))(a:w.grownBy w' v.ownBlock):BufAt B X bx c b w0 w':=⟨e,h.2.grown a h.3 (λk d=>(h.1.lt k d).1),Nat.le_trans h.3 a.4,(a.5 X h.lt h.ne).trans h.4⟩
theorem infoByte:(Z.info? 5).map (λi=>(i.8,i.3,i.4))=some (some (Y .u8 0),1,1):=K
theorem Dp{g:Array Oper}{rest:List Oper}{o:Oper}{a:Act}{Q:Exit->Act->T->Prop}(k:o.6=none)(s x:Operand)(L:o.2=.call {callee:=.builtin .append,args:=#[s,x],argTypes:=#[264,264]}){B X:Nat}{bx:Array G}{v:G}{l:List UInt8}{w0 w:T}(z:BufAt B X bx v l w0 w)(M:a.eval s=v)(c:UInt8)(q:Int)(A:q=(c.toNat:Int))(H:Nat)(y:w.1.size=H)(hx:a.eval x=aj (some ⟨H,0,none⟩) 1 1)(r:l.length+1<=140737488355328)(h:∀i w',BufAt B X bx i (l++[c]) w0 w'->ah Z g Q rest (a.put o.1 i) w'):ah Z g Q (o::rest) a (w.alloc (.cells #[Y .u8 q] 5)):=by
 subst A;subst y;obtain⟨i0,hi,m,n,p⟩:=info_parts infoByte;have b:=z.alloc (.cells #[Y .u8 (c.toNat:Int)] 5);refine wpList_append_own _ k s x 264 L B 5 i0 (Y .u8 0) 1 1 ab hi m n p rfl oD v _ _ M b.1 ⟨w.1.size,0,none⟩ 1 1 [Y .u8 (c.toNat:Int)] hx rfl ?_ ?_ (by unfold maxLen;omega) O b.3 ?_
 ·intro j u d;match j,d with
  |0,d=>simp at d;subst d;simp[Addr.add]
  |(j+1),d=>simp at d
 ·intro u t;simp at t;subst t;rfl
 ·intro i w' f D _;refine h i w' (b.grown ?_ D);have e:F l++[Y .u8 (c.toNat:Int)]=F (l++[c]):=by simp[F]
  rw[e]at f;simpa using f
theorem It{d:Array Oper}{rest:List Oper}{o:Oper}{a:Act}{Q:Exit->Act->T->Prop}(i:o.6=none)(s x:Operand)(q:o.2=.call {callee:=.builtin .append,args:=#[s,x],argTypes:=#[264,9]}){B X:Nat}{bx:Array G}{v:G}{l:List UInt8}{w0 w:T}(g:BufAt B X bx v l w0 w)(r:a.eval s=v)(t:ByteArray)(hx:a.eval x=E t)(b:l.length+t.size<=140737488355328)(h:∀f w',BufAt B X bx f (l++t.1.1) w0 w'->ah Z d Q rest (a.put o.1 f) w'):ah Z d Q (o::rest) a w:=by
 obtain⟨i0,hi,j,k,m⟩:=info_parts infoByte;refine Lib.wpList_append_own_string w i s x 264 9 q B 5 i0 ab ae hi j k m v _ _ r g.1 t hx (by unfold maxLen;omega) b g.3 ?_;intro f w' c p _;refine h f w' (g.grown ?_ p);have e:F l++ag t=F (l++t.1.1):=by simp[F,ag]
 have n:(l++t.1.1).length=l.length+t.size:=oS;rw[e]at c;rw[n];exact c
theorem D9{B X:Nat}{bx:Array G}{v:G}{l:List UInt8}{w0 w:T}(d:BufAt B X bx v l w0 w)(i:Int)(h:-9223372036854775808<=i)(j:i<=9223372036854775807)(f:l.length+21<=140737488355328)(k:ad Z B w0 "internal/strconv.uint64pow10" .u64 ac):ai Z 255 #[v,Y .i64 i,Y .i64 10] w λe w'=>∃g,e=.returned g/\BufAt B X bx g (l++C i) w0 w':=by
 refine(Tryz.strconv_AppendInt_10 B l.length i h j v (F l) w d.1 d.3 f (k.on d.2)).mono ?_;rintro e w' ⟨g,rfl,hown,a,b⟩;refine⟨g,rfl,?_,d.2.trans a,Nat.le_trans d.3 a.4,b X _ d.4 oS (by intro c m e;simp at e)⟩;have e:F l++F (C i)=F (l++C i):=by simp[F]
 rw[e]at hown;simpa using hown
theorem Bd(m:Mg)(h:right m=true):(0<=m.1/\m.1<=1099511627776)/\(0<=m.2/\m.2<=9)/\(0<=m.5/\m.5<=3)/\m.3.size<=12/\m.4.size<=8:=by simp only[right,B2,Bm,Bool.and_eq_true,decide_eq_true_eq]at h;obtain⟨⟨⟨⟨a,b⟩,d⟩,e⟩,c⟩:=h;exact⟨a,b,c,O,O⟩
theorem DZ(B:Nat)(m:Mg)(v:G)(l:List UInt8)(w0 w:T)(u:right m=true)(hown:w.ownsRow B 5 1 v l.length (F l))(r:Below B w0 w)(n:B<=w.1.size)(s:l.length+400<=140737488355328)(k:ad Z B w0 "internal/strconv.uint64pow10" .u64 ac):ai Z 295 #[v,m.val] w λe w'=>∃v',e=.returned v'/\w'.ownsRow B 5 1 v' (l++BL m).length (F (l++BL m))/\Below B w0 w':=by
 obtain⟨D,H,L,M,N⟩:=Bd m u;clear u;obtain⟨id,pri,body,queue,house⟩:=m;simp only[Mg.val,BL];simp only at D H L M N;have l1:=J id O O;have R:=J pri O O;have S:=J house O O;have p:BufAt B w.1.size #[Y .i64 id,Y .i64 pri,E body,E queue,Y .i64 house] v l w0 (w.alloc (.cells #[Y .i64 id,Y .i64 pri,E body,E queue,Y .i64 house] 84)):=⟨hown.alloc _,r.alloc n _,oO,af w _⟩;clear hown r;obtain⟨q,ha1⟩:∃x,x=C id:=⟨_,rfl⟩;obtain⟨a2,ha2⟩:∃x,x=C pri:=⟨_,rfl⟩;obtain⟨a3,ha3⟩:∃x,x=C house:=⟨_,rfl⟩;rw[<-ha1]at l1;rw[<-ha2]at R;rw[<-ha3]at S;rw[<-ha1,<-ha2,<-ha3];have y:=I ha1;have z:=I ha2;have A:=I ha3;clear ha1 ha2 ha3;go_enter Tryz.func295,Tryz.ntmps295;go_wp2_with(go_at_call 255;refine(D9 p id O O O k).mono ?_;rintro e w1 ⟨U,rfl,a⟩;refine aa ?_);refine I ?_;rw[<-y.o]at a;go_wp2_with(at_builtin;refine Dp rfl _ _ rfl a rfl 32 32 rfl _ rfl rfl oO ?_;rintro v2 w2 b;refine aa ?_);refine I ?_;have c2:=b.cell 1 _ rfl;go_wp2_with(go_at_call 255;refine(D9 b pri O O oO k).mono ?_;rintro e w3 ⟨v3,rfl,c⟩;refine aa ?_);refine I ?_;rw[<-z.o]at c;clear c2 a b p;go_wp2_with(at_builtin;refine Dp rfl _ _ rfl c rfl 32 32 rfl _ rfl rfl oO ?_;rintro v4 w4 d;refine aa ?_);refine I ?_;have c4:=d.cell 2 _ rfl;go_wp2_with(at_builtin;refine It rfl _ _ rfl d rfl body rfl oO ?_;rintro v5 w5 i;refine aa ?_);refine I ?_;clear c4 c d;go_wp2_with(at_builtin;refine Dp rfl _ _ rfl i rfl 32 32 rfl _ rfl rfl oO ?_;rintro V w6 f;refine aa ?_);refine I ?_;have P:=f.cell 3 _ rfl;go_wp2_with(at_builtin;refine It rfl _ _ rfl f rfl queue rfl oO ?_;rintro W w7 j;refine aa ?_);refine I ?_;clear P i f;go_wp2_with(at_builtin;refine Dp rfl _ _ rfl j rfl 32 32 rfl _ rfl rfl oO ?_;rintro X w8 g;refine aa ?_);refine I ?_;have Q:=g.cell 4 _ rfl;go_wp2_with(go_at_call 255;refine(D9 g house O O oO k).mono ?_;rintro e w9 ⟨v9,rfl,h⟩;refine aa ?_);refine I ?_;rw[<-A.o]at h;clear Q j g;go_wp2;go_ret;refine⟨v9,rfl,?_,h.2⟩;have e:l++q++[32]++a2++[32]++body.1.1++[32]++queue.1.1++[32]++a3=l++(q++[32]++a2++[32]++body.1.1++[32]++queue.1.1++[32]++a3):=by simp only[List.append_assoc]
 have t:=h.1;rw[e]at t;exact t
def AH:List Mg->List UInt8
 |[]=>[]
 |m::r=>match r with
  |[]=>BL m
  |_::_=>BL m++43::AH r
theorem Sq(l:List Mg)(m:Mg):AH (l++[m])=(match l with|[]=>BL m|_::_=>AH l++[43]++BL m):=by
 induction l with
 |nil=>rfl
 |cons a r ih=>
  cases r with
  |nil=>simp[AH]
  |cons b t=>show BL a++43::AH (b::t++[m])=_;rw[show b::t++[m]=b::(t++[m])from rfl]at*;simp only[AH]at*;simp[ih]
theorem So(l:List Mg)(m:Mg)(h:l≠[]):AH (l++[m])=AH l++[43]++BL m:=by
 rw[Sq];cases l with
 |nil=>exact absurd rfl h
 |cons _ _=>rfl
theorem Su(m:Mg)(h:right m=true):(BL m).length<=100:=by obtain⟨a,b,c,d,e⟩:=Bd m h;have l1:=J m.1 O O;have f:=J m.2 O O;have g:=J m.5 O O;simp[BL];omega
theorem Gs(l:List Mg)(h:∀m∈l,right m=true):(AH l).length<=101*l.length:=by
 induction l with
 |nil=>simp[AH]
 |cons a r ih=>
  have d:=Su a (h a oS);have e:=ih (λm c=>h m (by simp[c]));cases r with
  |nil=>simp[AH];omega
  |cons b t=>simp[AH]at*;omega
theorem Iv(l:List Mg)(k:Nat):Bj l k=-1↔∀m∈l,right m=true:=by
 induction l generalizing k with
 |nil=>simp[Bj]
 |cons a r ih=>
  simp only[Bj];split
  ·rename_i h;rw[ih (k+1)];simp[h]
  ·rename_i h;simp[h]
theorem Df(a:List Mg)(k:Nat)(m:Mg)(h:a[k]?=some m):a.take (k+1)=a.take k++[m]:=by rw[List.take_add_one,h];rfl
theorem Vm(w:T):(convert 264 9 (aj none 0 0)).run Z w=.ok (E ⟨#[]⟩) w:=K
theorem Mn(w:T)(B:Nat)(v:G)(l:List UInt8)(hown:w.ownsRow B 5 1 v l.length (F l)):(convert 264 9 v).run Z w=.ok (E ⟨l.toArray⟩) w:=by
 rcases hown.2 with⟨rfl,a⟩|⟨g,cap,cur,rfl,-,-,-,-,-,-⟩
 ·have:l=[]:=List.eq_nil_of_length_eq_zero a;subst this;exact Vm w
 ·exact run_convert_bytes_back (P:=Z) w 264 9 5 ⟨g,0,none⟩ cap l ab Tryz.underlying5 ae (λj b=>hown.cells (g:=g) rfl j _ (by simp[F,b]))
theorem U2(a:Option Addr)(cap:Nat)(d:List Mg)(w:T)(W:Msgs w.1.size w a d)(y:∀m∈d,m.wf)(hn:d.length<=1000000)(j:∀m∈d,right m=true)(V:ad Z w.1.size w "internal/strconv.uint64pow10" .u64 ac):ai Z 256 #[aj a d.length cap] w λe w'=>e=.returned (.tuple #[E ⟨(AH d).toArray⟩,.nilIface])/\Below w.1.size w w':=by
 have q:=JV a cap d w W y (by unfold maxLen;omega);rw[(Iv d 0).2 j]at q;have q:=I q;have r:=I j;clear y j;obtain⟨n,A⟩:∃n,Hid (d.length=n):=⟨_,rfl⟩;rw[A.o]at hn q⊢;go_enter Tryz.func256,Tryz.ntmps256;go_wp2_with(go_at_call 183;refine q.o.mono ?_;rintro e w' ⟨rfl,u⟩);go_loopw[18,5] (λi t wr=>∃k:Nat,k<=n/\i=Y .i64 k/\wr.ownsRow w.1.size 5 1 t (AH (d.take k)).length (F (AH (d.take k)))/\Below w.1.size w wr) (λi _ _=>n-(intOf i).toNat);case atStart=>exact⟨0,Nat.zero_le _,rfl,World.ownsRow_nil _ _ _ _,u⟩
 case round=>
  clear q u;obtain⟨k,hk,rfl,hown,s⟩:=hrel;by_cases P:k<n
  ·obtain⟨m,B⟩:∃m,d[k]?=some m:=⟨_,List.getElem?_eq_getElem (by rw[A.o];exact P)⟩;obtain⟨b,o,rfl,hb,Q⟩:=W k m B;have U:=I (r.o m (List.mem_of_getElem? B));have HS:=I (Df d k m B);have h:=Gs (d.take k) (λx hx=>r.o x (List.mem_of_mem_take hx));have f:(d.take k).length=k:=by rw[List.length_take];have:=A.o;omega
   have D:=I f;rw[f]at h;clear B f;obtain⟨c0,c1,c2,c3,c4⟩:=Q.on hb s;obtain⟨l,N⟩:∃l,l=AH (d.take k):=⟨_,rfl⟩;rw[<-N]at hown h;have S:=I N;clear N;have z:BufAt w.1.size wr.1.size #[Y .i64 m.1,Y .i64 m.2,E m.3,E m.4,Y .i64 m.5] u5 l w (wr.alloc (.cells #[Y .i64 m.1,Y .i64 m.2,E m.3,E m.4,Y .i64 m.5] 84)):=⟨hown.alloc _,s.alloc s.4 _,by have:=s.4;simp;omega,af wr _⟩;clear hown;by_cases v:k=0
   ·have H:¬(0:Int)<(k:Int):=O;have R:=I v;clear v;go_wp2_with(go_at_call 295;refine(DZ w.1.size m u5 l w _ U.o z.1 z.2 z.3 O V).mono ?_;rintro e w2 ⟨v2,rfl,g,L⟩);go_roundw;case rel=>
     refine⟨k+1,O,by go_num,?_,L⟩;rw[HS.o];have e:l=[]:=by rw[S.o,R.o];rfl
     have X:d.take k=[]:=by rw[R.o];rfl
     rw[e]at g;rw[X];exact g
    case measure=>simp[intOf];omega
   ·have H:(0:Int)<(k:Int):=O;go_wp2_with(at_builtin;go_must(refine Dp rfl _ _ rfl z rfl 43 43 rfl (wr.1.size+1) oS rfl O ?_);rintro v2 w2 c;refine aa ?_);refine I ?_;have d0:=c.cell 0 _ rfl;have d1:=c.cell 1 _ rfl;have d2:=c.cell 2 _ rfl;have d3:=c.cell 3 _ rfl;have d4:=c.cell 4 _ rfl;clear c0 c1 c2 c3 c4;go_wp2_with(go_at_call 295;refine(DZ w.1.size m v2 (l++[43]) w _ U.o c.1 c.2 c.3 oO V).mono ?_;rintro e w3 ⟨v3,rfl,p,M⟩);go_roundw;case rel=>refine⟨k+1,O,by go_num,?_,M⟩;rw[HS.o,So _ _ (by intro e;have:=D.o;rw[e]at this;simp at this;omega),<-S.o];exact p
    case measure=>simp[intOf];omega
  ·have a0:=Mn wr w.1.size u5 _ hown;go_wp2;go_ret2;rw[List.take_of_length_le (by rw[A.o];omega)];exact⟨rfl,s⟩
def Lv(z:Int):ByteArray:=⟨(C z).toArray⟩
theorem VQ:(Z.info? 9).map (λi=>(i.8,i.3,i.4))=some (some (E ⟨#[]⟩),1,16):=K
theorem MU(z:Int)(w:T)(b:-9223372036854775808<=z)(c:z<=9223372036854775807)(d:Lib.TabIs Z w "internal/strconv.uint64pow10" .u64 ac):ai Z 165 #[Y .i64 z] w λe w'=>e=.returned (E (Lv z))/\(∀B v n a,w.ownsRow B 9 1 v n a->w'.ownsRow B 9 1 v n a)/\Below w.1.size w w':=by refine(Tryz.strconv_Itoa z b c w d).mono ?_;rintro e w' ⟨rfl,q,os,rfl⟩;exact⟨rfl,λB v n a h=>Lib.ownsRow_grow h q os,Lib.below_grow _ _ (Nat.le_refl _) q os⟩
end
end Go.Proofs.YtkabgmdjfiidhaaGreatDoor
