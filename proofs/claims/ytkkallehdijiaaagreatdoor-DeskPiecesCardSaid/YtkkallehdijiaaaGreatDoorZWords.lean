import Derived.Test.YtkkallehdijiaaaGreatDoorZList
import Derived.Test.YtkkallehdijiaaaGreatDoorZShelfA
import Derived.Lib.AppendIntMem
import Derived.Lib.Hide
import Derived.Lib.AppendStr
import Derived.Lib.OthersKept
import Derived.Laws.IdiomStrings
import Derived.OwnWalk
import Derived.BigCall
import Derived.Lib.Join
set_option linter.all false
set_option maxHeartbeats 0
set_option maxRecDepth 99999
open Go.Lib renaming byteCells->F,hid->I,itoa_length_le->J,itoa->C,pow10Tab->ac,TabBelow->ad,strCells->ag
open Go.Proofs.Tryz renaming prog->Z,underlying29->ab,underlying9->ae
open Go renaming Value->G,World->T,heap_alloc_new->af,wpList->ah,Calls->ai
open Go.Value renaming string->E,int->Y,slice->aj
open Go.RowKit.Hid renaming out->aa
namespace Go.Proofs.YtkkallehdijiaaaGreatDoor
section
open Go.RowKit
def BT(m:Mg):List UInt8:=C m.1++[32]++C m.2++[32]++m.3.1.1++[32]++m.4.1.1++[32]++C m.5
structure BufAt(B X:Nat)(bx:Array G)(v:G)(l:List UInt8)(w0 w:T):Prop where
 own:w.ownsRow B 5 1 v l.length (F l)
 below:Below B w0 w
 le:B<=w.1.size
 box:w.1[X]?=some (.cells bx 95 (0,0))
theorem BufAt.ne{B X:Nat}{bx:Array G}{v:G}{l:List UInt8}{w0 w:T}(h:BufAt B X bx v l w0 w):some X≠v.ownBlock:=by
 intro e;rcases h.1.2 with⟨rfl,-⟩|⟨g,a,cur,rfl,-,b,-⟩
 ·cases e
 ·simp only[Value.ownBlock]at e;cases e;have:=h.4.symm.trans b;simp at this
theorem BufAt.lt{B X:Nat}{bx:Array G}{v:G}{l:List UInt8}{w0 w:T}(h:BufAt B X bx v l w0 w):X<w.1.size:=(Array.getElem?_eq_some_iff.1 h.4).1
theorem BufAt.cell{B X:Nat}{bx:Array G}{v:G}{l:List UInt8}{w0 w:T}(h:BufAt B X bx v l w0 w)(i:Nat)(x:G)(hx:bx[i]?=some x):w.cell? ⟨X,i,none⟩=some x:=by simp[World.cell?,h.4,hx]
theorem BufAt.alloc{B X:Nat}{bx:Array G}{v:G}{l:List UInt8}{w0 w:T}(h:BufAt B X bx v l w0 w)(o:Obj):BufAt B X bx v l w0 (w.alloc o):=⟨h.1.alloc o,h.2.alloc h.3 o,by have:=h.3;simp;omega,(Below.heap_alloc w o X h.lt).trans h.4⟩
theorem BufAt.grown{B X:Nat}{bx:Array G}{v c:G}{l b:List UInt8}{w0 w w':T}(h:BufAt B X bx v l w0 w)(d:w'.ownsRow B 5 1 c b.length (F b))(a:w.grownBy w' v.ownBlock):BufAt B X bx c b w0 w':=⟨d,h.2.grown a h.3 (λk hk=>(h.1.lt k hk).1),Nat.le_trans h.3 a.4,(a.5 X h.lt h.ne).trans h.4⟩
theorem infoByte:(Z.info? 5).map (λi=>(i.8,i.3,i.4))=some (some (Y .u8 0),1,1):=K
theorem Ds{f:Array Oper}{rest:List Oper}{o:Oper}{a:Act}{Q:Exit->Act->T->Prop}(i:o.6=none)(s x:Operand)(L:o.2=.call {callee:=.builtin .append,args:=#[s,x],argTypes:=#[29,29]}){B X:Nat}{bx:Array G}{v:G}{l:List UInt8}{w0 w:T}(y:BufAt B X bx v l w0 w)(hs:a.eval s=v)(c:UInt8)(p:Int)(z:p=(c.toNat:Int))(H:Nat)(t:w.1.size=H)(hx:a.eval x=aj (some ⟨H,0,none⟩) 1 1)(q:l.length+1<=140737488355328)(h:∀g w',BufAt B X bx g (l++[c]) w0 w'->ah Z f Q rest (a.put o.1 g) w'):ah Z f Q (o::rest) a (w.alloc (.cells #[Y .u8 p] 5)):=by
 subst z;subst t;obtain⟨i0,D,k,m,n⟩:=info_parts infoByte;have b:=y.alloc (.cells #[Y .u8 (c.toNat:Int)] 5);refine wpList_append_own _ i s x 29 L B 5 i0 (Y .u8 0) 1 1 ab D k m n rfl oD v _ _ hs b.1 ⟨w.1.size,0,none⟩ 1 1 [Y .u8 (c.toNat:Int)] hx rfl ?_ ?_ (by unfold maxLen;omega) O b.3 ?_
 ·intro j u hj;match j,hj with
  |0,hj=>simp at hj;subst hj;simp[Addr.add]
  |(j+1),hj=>simp at hj
 ·intro u r;simp at r;subst r;rfl
 ·intro g w' d A _;refine h g w' (b.grown ?_ A);have e:F l++[Y .u8 (c.toNat:Int)]=F (l++[c]):=by simp[F]
  rw[e]at d;simpa using d
theorem I2{d:Array Oper}{rest:List Oper}{o:Oper}{a:Act}{Q:Exit->Act->T->Prop}(i:o.6=none)(s x:Operand)(q:o.2=.call {callee:=.builtin .append,args:=#[s,x],argTypes:=#[29,9]}){B X:Nat}{bx:Array G}{v:G}{l:List UInt8}{w0 w:T}(g:BufAt B X bx v l w0 w)(hs:a.eval s=v)(t:ByteArray)(hx:a.eval x=E t)(b:l.length+t.size<=140737488355328)(h:∀f w',BufAt B X bx f (l++t.1.1) w0 w'->ah Z d Q rest (a.put o.1 f) w'):ah Z d Q (o::rest) a w:=by
 obtain⟨i0,p,j,k,m⟩:=info_parts infoByte;refine Lib.wpList_append_own_string w i s x 29 9 q B 5 i0 ab ae p j k m v _ _ hs g.1 t hx (by unfold maxLen;omega) b g.3 ?_;intro f w' c n _;refine h f w' (g.grown ?_ n);have e:F l++ag t=F (l++t.1.1):=by simp[F,ag]
 have e2:(l++t.1.1).length=l.length+t.size:=oS;rw[e]at c;rw[e2];exact c
theorem Eh{B X:Nat}{bx:Array G}{v:G}{l:List UInt8}{w0 w:T}(f:BufAt B X bx v l w0 w)(i:Int)(j:-9223372036854775808<=i)(k:i<=9223372036854775807)(g:l.length+21<=140737488355328)(m:ad Z B w0 "internal/strconv.uint64pow10" .u64 ac):ai Z 233 #[v,Y .i64 i,Y .i64 10] w λe w'=>∃h,e=.returned h/\BufAt B X bx h (l++C i) w0 w':=by
 refine(Tryz.strconv_AppendInt_10 B l.length i j k v (F l) w f.1 f.3 g (m.on f.2)).mono ?_;rintro e w' ⟨h,rfl,b,a,d⟩;refine⟨h,rfl,?_,f.2.trans a,Nat.le_trans f.3 a.4,d X _ f.4 oS (by intro c n e;simp at e)⟩;have e:F l++F (C i)=F (l++C i):=by simp[F]
 rw[e]at b;simpa using b
theorem A5(m:Mg)(h:right m=true):(0<=m.1/\m.1<=1099511627776)/\(0<=m.2/\m.2<=9)/\(0<=m.5/\m.5<=3)/\m.3.size<=12/\m.4.size<=8:=by simp only[right,KR,Cw,Bool.and_eq_true,decide_eq_true_eq]at h;obtain⟨⟨⟨⟨a,b⟩,d⟩,e⟩,c⟩:=h;exact⟨a,b,c,O,O⟩
theorem D5(B:Nat)(m:Mg)(v:G)(l:List UInt8)(w0 w:T)(D:right m=true)(d:w.ownsRow B 5 1 v l.length (F l))(y:Below B w0 w)(s:B<=w.1.size)(z:l.length+400<=140737488355328)(r:ad Z B w0 "internal/strconv.uint64pow10" .u64 ac):ai Z 183 #[v,m.val] w λe w'=>∃v',e=.returned v'/\w'.ownsRow B 5 1 v' (l++BT m).length (F (l++BT m))/\Below B w0 w':=by
 obtain⟨N,P,Q,R,S⟩:=A5 m D;clear D;obtain⟨id,pri,body,queue,house⟩:=m;simp only[Mg.val,BT];simp only at N P Q R S;have l1:=J id O O;have W:=J pri O O;have X:=J house O O;have t:BufAt B w.1.size #[Y .i64 id,Y .i64 pri,E body,E queue,Y .i64 house] v l w0 (w.alloc (.cells #[Y .i64 id,Y .i64 pri,E body,E queue,Y .i64 house] 95)):=⟨d.alloc _,y.alloc s _,oO,af w _⟩;clear d y;obtain⟨u,a⟩:∃x,x=C id:=⟨_,rfl⟩;obtain⟨a2,b⟩:∃x,x=C pri:=⟨_,rfl⟩;obtain⟨a3,c⟩:∃x,x=C house:=⟨_,rfl⟩;rw[<-a]at l1;rw[<-b]at W;rw[<-c]at X;rw[<-a,<-b,<-c];have H:=I a;have L:=I b;have M:=I c;clear a b c;go_enter Tryz.func183,Tryz.ntmps183;go_wp2_with(go_at_call 233;refine(Eh t id O O O r).mono ?_;rintro e w1 ⟨v1,rfl,f⟩;refine aa ?_);refine I ?_;rw[<-H.o]at f;go_wp2_with(at_builtin;refine Ds rfl _ _ rfl f rfl 32 32 rfl _ rfl rfl oO ?_;rintro v2 w2 g;refine aa ?_);refine I ?_;have c2:=g.cell 1 _ rfl;go_wp2_with(go_at_call 233;refine(Eh g pri O O oO r).mono ?_;rintro e w3 ⟨v3,rfl,h⟩;refine aa ?_);refine I ?_;rw[<-L.o]at h;clear c2 f g t;go_wp2_with(at_builtin;refine Ds rfl _ _ rfl h rfl 32 32 rfl _ rfl rfl oO ?_;rintro v4 w4 i;refine aa ?_);refine I ?_;have c4:=i.cell 2 _ rfl;go_wp2_with(at_builtin;refine I2 rfl _ _ rfl i rfl body rfl oO ?_;rintro v5 w5 p;refine aa ?_);refine I ?_;clear c4 h i;go_wp2_with(at_builtin;refine Ds rfl _ _ rfl p rfl 32 32 rfl _ rfl rfl oO ?_;rintro v6 w6 j;refine aa ?_);refine I ?_;have U:=j.cell 3 _ rfl;go_wp2_with(at_builtin;refine I2 rfl _ _ rfl j rfl queue rfl oO ?_;rintro v7 w7 q;refine aa ?_);refine I ?_;clear U p j;go_wp2_with(at_builtin;refine Ds rfl _ _ rfl q rfl 32 32 rfl _ rfl rfl oO ?_;rintro v8 w8 k;refine aa ?_);refine I ?_;have V:=k.cell 4 _ rfl;go_wp2_with(go_at_call 233;refine(Eh k house O O oO r).mono ?_;rintro e w9 ⟨v9,rfl,n⟩;refine aa ?_);refine I ?_;rw[<-M.o]at n;clear V q k;go_wp2;go_ret;refine⟨v9,rfl,?_,n.2⟩;have e:l++u++[32]++a2++[32]++body.1.1++[32]++queue.1.1++[32]++a3=l++(u++[32]++a2++[32]++body.1.1++[32]++queue.1.1++[32]++a3):=by simp only[List.append_assoc]
 have A:=n.1;rw[e]at A;exact A
def Ay:List Mg->List UInt8
 |[]=>[]
 |m::r=>match r with
  |[]=>BT m
  |_::_=>BT m++43::Ay r
theorem TE(l:List Mg)(m:Mg):Ay (l++[m])=(match l with|[]=>BT m|_::_=>Ay l++[43]++BT m):=by
 induction l with
 |nil=>rfl
 |cons a r ih=>
  cases r with
  |nil=>simp[Ay]
  |cons b t=>show BT a++43::Ay (b::t++[m])=_;rw[show b::t++[m]=b::(t++[m])from rfl]at*;simp only[Ay]at*;simp[ih]
theorem TD(l:List Mg)(m:Mg)(h:l≠[]):Ay (l++[m])=Ay l++[43]++BT m:=by
 rw[TE];cases l with
 |nil=>exact absurd rfl h
 |cons _ _=>rfl
theorem T0(m:Mg)(h:right m=true):(BT m).length<=100:=by obtain⟨a,b,c,d,e⟩:=A5 m h;have l1:=J m.1 O O;have f:=J m.2 O O;have g:=J m.5 O O;simp[BT];omega
theorem EG(l:List Mg)(h:∀m∈l,right m=true):(Ay l).length<=101*l.length:=by
 induction l with
 |nil=>simp[Ay]
 |cons a r ih=>
  have d:=T0 a (h a oS);have e:=ih (λm c=>h m (by simp[c]));cases r with
  |nil=>simp[Ay];omega
  |cons b t=>simp[Ay]at*;omega
theorem I5(l:List Mg)(k:Nat):Bi l k=-1↔∀m∈l,right m=true:=by
 induction l generalizing k with
 |nil=>simp[Bi]
 |cons a r ih=>
  simp only[Bi];split
  ·rename_i h;rw[ih (k+1)];simp[h]
  ·rename_i h;simp[h]
theorem Dc(ms:List Mg)(k:Nat)(m:Mg)(h:ms[k]?=some m):ms.take (k+1)=ms.take k++[m]:=by rw[List.take_add_one,h];rfl
theorem XG(w:T):(convert 29 9 (aj none 0 0)).run Z w=.ok (E ⟨#[]⟩) w:=K
theorem Ny(w:T)(B:Nat)(v:G)(l:List UInt8)(a:w.ownsRow B 5 1 v l.length (F l)):(convert 29 9 v).run Z w=.ok (E ⟨l.toArray⟩) w:=by
 rcases a.2 with⟨rfl,c⟩|⟨g,b,cur,rfl,-,-,-,-,-,-⟩
 ·have:l=[]:=List.eq_nil_of_length_eq_zero c;subst this;exact XG w
 ·exact run_convert_bytes_back (P:=Z) w 29 9 5 ⟨g,0,none⟩ b l ab Tryz.underlying5 ae (λj hj=>a.cells (g:=g) rfl j _ (by simp[F,hj]))
theorem OU(a:Option Addr)(s:Nat)(ms:List Mg)(w:T)(W:Msgs w.1.size w a ms)(z:∀m∈ms,m.wf)(hn:ms.length<=1000000)(j:∀m∈ms,right m=true)(V:ad Z w.1.size w "internal/strconv.uint64pow10" .u64 ac):ai Z 121 #[aj a ms.length s] w λe w'=>e=.returned (.tuple #[E ⟨(Ay ms).toArray⟩,.nilIface])/\Below w.1.size w w':=by
 have q:=KT a s ms w W z (by unfold maxLen;omega);rw[(I5 ms 0).2 j]at q;have q:=I q;have r:=I j;clear z j;obtain⟨n,B⟩:∃n,Hid (ms.length=n):=⟨_,rfl⟩;rw[B.o]at hn q⊢;go_enter Tryz.func121,Tryz.ntmps121;go_wp2_with(go_at_call 180;refine q.o.mono ?_;rintro e w' ⟨rfl,v⟩);go_loopw[18,5] (λi t wr=>∃k:Nat,k<=n/\i=Y .i64 k/\wr.ownsRow w.1.size 5 1 t (Ay (ms.take k)).length (F (Ay (ms.take k)))/\Below w.1.size w wr) (λi _ _=>n-(intOf i).toNat);case atStart=>exact⟨0,Nat.zero_le _,rfl,World.ownsRow_nil _ _ _ _,v⟩
 case round=>
  clear q v;obtain⟨k,hk,rfl,f,u⟩:=hrel;by_cases P:k<n
  ·obtain⟨m,hj⟩:∃m,ms[k]?=some m:=⟨_,List.getElem?_eq_getElem (by rw[B.o];exact P)⟩;obtain⟨b,o,rfl,X,Q⟩:=W k m hj;have U:=I (r.o m (List.mem_of_getElem? hj));have HS:=I (Dc ms k m hj);have h:=EG (ms.take k) (λx hx=>r.o x (List.mem_of_mem_take hx));have d:(ms.take k).length=k:=by rw[List.length_take];have:=B.o;omega
   have D:=I d;rw[d]at h;clear hj d;obtain⟨c0,c1,c2,c3,c4⟩:=Q.on X u;obtain⟨l,N⟩:∃l,l=Ay (ms.take k):=⟨_,rfl⟩;rw[<-N]at f h;have S:=I N;clear N;have A:BufAt w.1.size wr.1.size #[Y .i64 m.1,Y .i64 m.2,E m.3,E m.4,Y .i64 m.5] u5 l w (wr.alloc (.cells #[Y .i64 m.1,Y .i64 m.2,E m.3,E m.4,Y .i64 m.5] 95)):=⟨f.alloc _,u.alloc u.4 _,by have:=u.4;simp;omega,af wr _⟩;clear f;by_cases y:k=0
   ·have H:¬(0:Int)<(k:Int):=O;have R:=I y;clear y;go_wp2_with(go_at_call 183;refine(D5 w.1.size m u5 l w _ U.o A.1 A.2 A.3 O V).mono ?_;rintro e w2 ⟨v2,rfl,g,L⟩);go_roundw;case rel=>
     refine⟨k+1,O,by go_num,?_,L⟩;rw[HS.o];have e:l=[]:=by rw[S.o,R.o];rfl
     have e2:ms.take k=[]:=by rw[R.o];rfl
     rw[e]at g;rw[e2];exact g
    case measure=>simp[intOf];omega
   ·have H:(0:Int)<(k:Int):=O;go_wp2_with(at_builtin;go_must(refine Ds rfl _ _ rfl A rfl 43 43 rfl (wr.1.size+1) oS rfl O ?_);rintro v2 w2 c;refine aa ?_);refine I ?_;have d0:=c.cell 0 _ rfl;have d1:=c.cell 1 _ rfl;have d2:=c.cell 2 _ rfl;have d3:=c.cell 3 _ rfl;have d4:=c.cell 4 _ rfl;clear c0 c1 c2 c3 c4;go_wp2_with(go_at_call 183;refine(D5 w.1.size m v2 (l++[43]) w _ U.o c.1 c.2 c.3 oO V).mono ?_;rintro e w3 ⟨v3,rfl,p,M⟩);go_roundw;case rel=>refine⟨k+1,O,by go_num,?_,M⟩;rw[HS.o,TD _ _ (by intro e;have:=D.o;rw[e]at this;simp at this;omega),<-S.o];exact p
    case measure=>simp[intOf];omega
  ·have a0:=Ny wr w.1.size u5 _ f;go_wp2;go_ret2;rw[List.take_of_length_le (by rw[B.o];omega)];exact⟨rfl,u⟩
def Dv(z:Int):ByteArray:=⟨(C z).toArray⟩
theorem Di(z:Int)(w:T)(a:-9223372036854775808<=z)(b:z<=9223372036854775807)(c:Lib.TabIs Z w "internal/strconv.uint64pow10" .u64 ac):ai Z 11 #[Y .i64 z] w λe w'=>e=.returned (E (Dv z))/\(∀B v n xs,w.ownsRow B 9 1 v n xs->w'.ownsRow B 9 1 v n xs)/\Below w.1.size w w':=by refine(Tryz.strconv_Itoa z a b w c).mono ?_;rintro e w' ⟨rfl,q,os,rfl⟩;exact⟨rfl,λB v n xs h=>Lib.ownsRow_grow h q os,Lib.below_grow _ _ (Nat.le_refl _) q os⟩
end
end Go.Proofs.YtkkallehdijiaaaGreatDoor
