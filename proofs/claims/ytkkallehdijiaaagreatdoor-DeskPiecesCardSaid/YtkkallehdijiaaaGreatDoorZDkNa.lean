import Derived.Test.YtkkallehdijiaaaGreatDoorZNmDrop
import Derived.Test.YtkkallehdijiaaaGreatDoorZDkL
set_option linter.all false
set_option maxHeartbeats 0
set_option maxRecDepth 99999
open Nat renaming le_refl->F
open Option renaming some->Z,none->G
open Go.Value renaming string->I,slice->T,int->ag,pointer->ai
open List renaming getElem?_eq_some_iff->J,getElem?_append_left->ab,length_take->ah
open Go.Proofs.Tryz renaming prog->E,ntmps69->ad,func69->ae,underlying100->af
open Go.RowKit.Below renaming refl->Y
open Go.World renaming cell?_of_block->C
open Go.Ending renaming returned->aa
open Bool renaming and_eq_true->ac,true->aj
namespace Go.Proofs.YtkkallehdijiaaaGreatDoor
section
open Go.RowKit
theorem SS:(E.info? 88).map (λi=>(i.8,i.3,i.4))=Z (Z (.agg #[I ⟨#[]⟩,I ⟨#[]⟩,ag .i64 0]),3,40):=K
def Hd(B:Nat)(w:World)(a:Option Addr)(ns:List Nm):Prop:=∀(j:Nat) x,ns[j]?=Z x->∃g,a=Z ⟨g,0,G⟩/\B<=g/\g<w.1.size/\w.cell? ⟨g,j*3,G⟩=Z (I x.1)/\w.cell? ⟨g,j*3+1,G⟩=Z (I x.2)/\w.cell? ⟨g,j*3+2,G⟩=Z (ag .i64 x.3)
theorem P9{w:World}{base:Nat}{a:Option Addr}{c n:Nat}{b:List Nm}(h:w.ownsRow base 88 3 (T a n c) n (BJ b))(p:b.length=n):Hd base w a b:=λj x hx=>by
 subst p;have o:j<b.length:=(J.1 hx).1;rcases h.2 with⟨f,q⟩|⟨g,e,cur,f,k,l,-⟩
 ·omega
 ·cases f;have d:∀i,i<3->w.cell? ⟨g,j*3+i,G⟩=(nc x)[i]?:=λi m=>(h.cellAt (j*3+i) O).trans (VG b j x hx i m);exact⟨g,rfl,k,(Array.getElem?_eq_some_iff.1 l).1,d 0 O,d 1 O,d 2 O⟩
theorem NB.news{w w':World}{b t o:Nat}{pre post:List Value}{ns rest:List Nm}(h:NB w b t o pre post ns rest)(d:Below w.1.size w w'):(BJ ns).length=ns.length*3/\∀j u,(BJ ns)[j]?=Z u->w'.cell? ((⟨b,o,G⟩:Addr).add j)=Z u:=by
 refine⟨AR ns,λj u hj=>?_⟩;have a:=(J.1 hj).1;rw[D4];refine(d.cell (p:=⟨b,o+j,G⟩) h.lt).trans ?_;have e:(pre++(BJ (ns++rest)++ag .i64 (ns.length:Int)::post))[o+j]?=Z u:=by have c:=h.3;rw[List.getElem?_append_right O,c,show o+j-o=j by omega,ab (by rw[AR,List.length_append];rw[AR]at a;omega),GE,ab a];exact hj
 simp only[World.cell?,h.1];simpa using e
theorem Pj(b o n g:Nat)(ns:List Nm)(w:World)(y:ns.length=n)(H:n<=3000)(t:(BJ ns).length=n*3/\∀W',Below w.1.size w W'->∀j u,(BJ ns)[j]?=Z u->W'.cell? ((⟨b,o,G⟩:Addr).add j)=Z u):Calls E 184 #[T (Z ⟨b,o,G⟩) n g] w λe w'=>(∃a c,e=aa (T a n c)/\Hd w.1.size w' a ns)/\Below w.1.size w w':=by obtain⟨D,hj,h,i,k⟩:=Aw SS;have z:=Aa hj;have l:=Aa h;have m:=Aa i;have p:=Aa k;clear hj h i k;have q:=Aa t.1;have r:=Aa (t.2 _ ((Y w.1.size w).alloc (F _) (.cells #[] 88)));have x:=Aa (R8 (base:=w.1.size) (size:=3) (heap_alloc_new w (.cells #[] 88)) (F _));have A:=Aa y;clear t y;have L:∀W,(binOp .eql 100 (T (Z ⟨b,o,G⟩) n g) (T G 0 0)).run E W=.ok (.bool false) W:=λW=>Lib.run_eql_slice_nil W 100 88 _ n g 0 0 af;go_enter Tryz.func184,Tryz.ntmps184;go_wp2_with(at_builtin;go_must(refine wpList_append_own _ rfl _ _ 100 rfl w.1.size 88 D _ 3 40 af z.o l.o m.o p.o rfl oD (T (Z ⟨w.1.size,0,G⟩) 0 0) 0 [] rfl x.o ⟨b,o,G⟩ n g (BJ ns) rfl q.o r.o (Jg _) (by unfold maxLen;omega) O oS ?_));intro M w1 d f _;have s:Below w.1.size w w1:=AJ (base:=w.1.size) (W:=w.alloc (.cells #[] 88)) ((Y _ _).alloc (F _) _) x.o f oS (F _);obtain⟨B,c1,rfl⟩:=Ar d;have v:=Aa (P9 (by simpa using d) (by simpa using A.o));clear d f;go_wp2;go_ret;exact⟨⟨B,c1,rfl,v.o⟩,s⟩
theorem QG(b t o:Nat)(pre post:List Value)(ns rest:List Nm)(w:World)(h:NB w b t o pre post ns rest):Calls E 122 #[ai (Z ⟨b,o,G⟩)] w λe w'=>(∃a c,e=aa (T a ns.length c)/\Hd w.1.size w' a ns)/\Below w.1.size w w':=by
 have k:=h.lt;have u:=h.2;have q:=h.many;obtain⟨n,i⟩:∃n,Hid (ns.length=n):=⟨_,rfl⟩;have p:n<=20:=by rw[<-i.o];omega
 have HC:Hid (∀W,Below w.1.size w W->Calls E 184 #[T (Z ⟨b,o,G⟩) n 20] W λe w'=>(∃a c,e=aa (T a n c)/\Hd w.1.size w' a ns)/\Below W.1.size W w'):=Aa λW m=>by refine(Pj b o n 20 ns W i.o O ⟨by rw[<-i.o];exact AR ns,λA f=>((h.below m k).news f).2⟩).mono ?_;rintro e w' ⟨⟨a,c,y,z⟩,f⟩;exact⟨⟨a,c,y,λj x hx=>by obtain⟨g,r,s,v⟩:=z j x hx;exact⟨g,r,Nat.le_trans m.4 s,v⟩⟩,f⟩
 rw[i.o]at q⊢;have B:∀W,(Instr.sliceAt 126 (ai (Z ⟨b,o,G⟩)) G (Z (ag .i64 (n:Int))) G).run E W=.ok (T (Z ⟨b,o,G⟩) n 20) W:=λW=>by rw[run_sliceAt_array_h W 126 _ Nl _ _ O (by rw[FZ];omega),Kl,FZ];simp only[Result.andThen,slicedAt,Int.toNat_natCast,D4];simp
 clear h;go_enter Tryz.func122,Tryz.ntmps122;go_wp2_with fail;go_region_with(go_at_call 184;refine(HC.o _ (by first|exact Y _ _|exact(Y _ _).drew)).mono ?_;rintro e D ⟨⟨a4,c4,rfl,l⟩,d⟩);all_goals
  go_wp2;go_ret;exact⟨⟨_,_,rfl,l⟩,⟨d.1,d.2,d.3,d.4,d.5⟩⟩
def M0:List Nm:=List.replicate 20 ⟨⟨#[]⟩,⟨#[]⟩,0⟩
def Xk:Array Value:=(([]:List Value)++(BJ ([]++M0)++ag .i64 (([]:List Nm).length:Int)::[])).toArray
theorem NB.zero(w:World)(t:Nat):NB (w.alloc (.cells Xk t)) w.1.size t 0 [] [] [] M0:=⟨heap_alloc_new w _,rfl,rfl⟩
theorem Vj{l:List Nm}{x:Nm}(h:∀y∈l,Lc y.1 x.1=aj):Ha l x=l++[x]:=by
 induction l with
 |nil=>rfl
 |cons y r ih=>have a:=h y oS;rw[Ha,if_neg (EJ a),if_pos a,ih (λz b=>h z (by simp[b]))];rfl
theorem Tk{ns:List Nm}{k:Nat}{x:Nm}(c:As ns)(d:AO x=aj)(hx:ns[k]?=Z x)(f:ns.length<=20):Dp (ns.take k) x=0/\CW (ns.take k) x=ns.take (k+1):=by
 obtain⟨hk,hv⟩:=J.1 hx;have a:Dp (ns.take k) x=0:=by unfold Dp;rw[if_pos d,if_neg];rw[ac,decide_eq_true_eq];rintro⟨-,b⟩;rw[ah]at b;omega
 refine⟨a,?_⟩;unfold CW;rw[if_pos a,Vj,List.take_add_one,hx]
 ·rfl
 ·intro y e;obtain⟨j,hj,rfl⟩:=List.getElem_of_mem e;rw[ah]at hj;rw[List.getElem_take,<-hv];exact List.pairwise_iff_getElem.1 c j k O hk O
theorem FV(H t:Nat)(pre post:List Value)(ns rest:List Nm)(w:World)(N:NB w H t 6 pre post ns rest)(ho:As ns)(hr:∀x∈ns,AO x=aj):Calls E 94 #[ai (Z ⟨H,0,G⟩)] w λe w'=>∃b rest',e=aa (ai (Z ⟨b,0,G⟩))/\Hid (w.1.size<=b/\NB w' b 128 0 [] [] ns rest'/\Below w.1.size w w'):=by
 have p:=N.lt;have R:=N.2;have hz:=NB.zero w 128;have l:Below w.1.size w (w.alloc (.cells Xk 128)):=(Y _ _).alloc (F _) _;have f:=Aa (QG H t 6 pre post ns rest _ (N.below l p));obtain⟨n,L⟩:∃n,Hid (ns.length=n):=⟨_,rfl⟩;rw[L.o]at f R;have Q:=Aa hz;have X:=Aa ho;have HR:=Aa hr;have q:=Aa l;clear N ho hr hz l;go_enter Tryz.func94,Tryz.ntmps94;go_wp2_with(go_at_call 122;go_must(refine f.o.mono ?_);rintro e w1 ⟨⟨a,c,rfl,hc⟩,v⟩;refine Hid.out ?_);refine Aa ?_;have HC:=Aa hc;have s:=Aa v;have B:n<=20:=O;clear hc v f;go_wp2;go_loopw[12] (λi wr=>∃k:Nat,k<=n/\i=ag .i64 k/\Hid ((∃r,NB wr w.1.size 128 0 [] [] (ns.take k) r)/\w1.grownBy wr (Z w.1.size))) (λi _=>n-(intOf i).toNat);case atStart=>exact⟨0,Nat.zero_le _,rfl,Aa ⟨⟨_,Q.o.below s.o Q.o.lt⟩,⟨rfl,rfl,rfl,F _,λ_ _ _=>rfl⟩⟩⟩
 case round=>
  obtain⟨k,hk,rfl,S⟩:=hrel;obtain⟨⟨r,d⟩,z⟩:=S.o;by_cases p:k<n
  ·obtain⟨x,hx⟩:∃x,ns[k]?=Z x:=⟨_,List.getElem?_eq_getElem (by rw[L.o];exact p)⟩;obtain⟨g,rfl,U,V,c0,c1,c2⟩:=HC.o k x hx;have h:=HR.o x (List.mem_of_getElem? hx);have a0:w.1.size<g:=Nat.lt_of_lt_of_le Q.o.lt U;have M:wr.1[g]?=w1.1[g]?:=z.5 g V (λe=>by have:=Option.some.inj e;omega);have q0:=(C (a:=⟨g,k*3,G⟩) M).trans c0;have q1:=(C (a:=⟨g,k*3+1,G⟩) M).trans c1;have q2:=(C (a:=⟨g,k*3+2,G⟩) M).trans c2;have HS:=Aa (Tk X.o h hx (by rw[L.o];exact B));have W:x.wf:=⟨by have:=(Cl h).1;unfold maxLen;omega,by have:=(Cl h).2;unfold maxLen;omega⟩;have m:Below wr.1.size wr (wr.alloc (.cells #[I x.1,I x.2,ag .i64 x.3] 88)):=(Y _ _).alloc (F _) _;have D:As (ns.take k):=X.o.sublist (List.take_sublist _ _);have j:=Aa (M1 w.1.size 128 0 [] [] (ns.take k) r x _ (d.below m d.lt) D W);have u:=Aa (AN z m);clear c0 c1 c2 M hx h D S d z m;go_wp2_with(go_at_call 95;go_must(refine j.o.mono ?_);rintro e w4 ⟨rfl,y,A⟩;refine Hid.out ?_);refine Aa ?_;have P:Hid ((∃r,NB w4 w.1.size 128 0 [] [] (ns.take (k+1)) r)/\w1.grownBy w4 (Z w.1.size)):=Aa (by rw[<-HS.o.2];exact⟨y,Af u.o A⟩);clear y A j u HS q0 q1 q2;go_wp2;go_roundw;case rel=>exact⟨k+1,O,by go_num,P⟩
   case measure=>simp[intOf];omega
  ·obtain rfl:k=n:=O;have HT:Hid (ns.take k=ns):=Aa (List.take_of_length_le (by rw[L.o];exact F _));go_wp2;go_ret;obtain⟨⟨r,d⟩,z⟩:=S.o;rw[HT.o]at d;exact⟨w.1.size,r,rfl,Aa ⟨F _,d,BN (Ab q.o q.o.4 s.o) z (F _)⟩⟩
def Bt(x:Nm):ByteArray:=
 let a:=if x.2.toList.isEmpty=aj then x.1 else x.1++(⟨#[61]⟩++x.2);if x.3=-1 then a else a++(⟨#[64]⟩++Dv x.3)
theorem J5{x:Nm}(h:AO x=aj):(Bt x).size<=100:=by obtain⟨a,b⟩:=Cl h;simp only[AO,ac,decide_eq_true_eq]at h;obtain⟨⟨⟨-,c⟩,d⟩,-⟩:=h;have e:=DC x.3 O O;have e1:(⟨#[61]⟩:ByteArray).size=1:=rfl;have e2:(⟨#[64]⟩:ByteArray).size=1:=rfl;unfold Bt;dsimp only;split<;>split<;>(try simp only[ByteArray.size_append,e1,e2])<;>omega
theorem MU(x:Nm)(w:World)(l:AO x=aj)(hL:DLay w):Calls E 69 #[.agg #[I x.1,I x.2,ag .i64 x.3]] w λr w'=>r=aa (I (Bt x))/\Below w.1.size w w':=by
 obtain⟨j,n⟩:=Cl l;simp only[AO,ac,decide_eq_true_eq]at l;obtain⟨⟨⟨-,p⟩,s⟩,-⟩:=l;have m:=DC x.3 O O;have e:=Aa (λV t=>(Di x.3 V O O (hL.below t).1.tab.here).mono (R':=λr w'=>r=aa (I (Dv x.3))/\Below V.1.size V w') (λr w' q=>⟨q.1,q.2.2⟩));obtain⟨nm,d,g⟩:=x;simp only at j n p s m e⊢;obtain⟨tx,a⟩:∃q,Hid (Bt ⟨nm,d,g⟩=q):=⟨_,Aa rfl⟩;rw[a.o];generalize hit:Dv g=it at m e;have i:=Aa hit;clear hit hL;have u:¬9223372036854775807<1+d.size:=O;have v:¬9223372036854775807<nm.size+(1+d.size):=O;have y:¬9223372036854775807<1+it.size:=O;have z:¬9223372036854775807<nm.size+(1+it.size):=O;have A:¬9223372036854775807<nm.size+(1+d.size)+(1+it.size):=O;have f:=(Y w.1.size w).alloc (F _) (.cells #[I nm,I d,ag .i64 g] 88);have b:=Aa (e.o _ f);cases he:d.toList.isEmpty with
 |true=>
  by_cases c:g=-1
  ·subst c;have h:tx=nm:=by rw[<-a.o];simp[Bt,he]
   subst h;clear a e b;go_enter ae,ad;go_wp2;go_ret;exact⟨rfl,f⟩
  ·have h:nm++(⟨#[64]⟩++it)=tx:=by rw[<-a.o,<-i.o];simp[Bt,he,c]
   have k:(g != -1)=aj:=by simpa using c
   clear a e c;go_enter ae,ad;go_wp2_with(go_at_call 11;go_must(refine b.o.mono ?_);rintro r w1 ⟨rfl,j⟩;refine Hid.out ?_);refine Aa ?_;go_wp2;go_ret;exact⟨by rw[<-h];rfl,Ab f f.4 j⟩
 |false=>
  by_cases c:g=-1
  ·subst c;have h:nm++(⟨#[61]⟩++d)=tx:=by rw[<-a.o];simp[Bt,he]
   clear a e b;go_enter ae,ad;go_wp2;go_ret;exact⟨by rw[<-h];rfl,f⟩
  ·have h:nm++(⟨#[61]⟩++d)++(⟨#[64]⟩++it)=tx:=by rw[<-a.o,<-i.o];simp[Bt,he,c]
   have k:(g != -1)=aj:=by simpa using c
   clear a e c;go_enter ae,ad;go_wp2_with(go_at_call 11;go_must(refine b.o.mono ?_);rintro r w1 ⟨rfl,j⟩;refine Hid.out ?_);refine Aa ?_;go_wp2;go_ret;exact⟨by rw[<-h];rfl,Ab f f.4 j⟩
end
end Go.Proofs.YtkkallehdijiaaaGreatDoor
