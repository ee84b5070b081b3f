import Derived.Test.YtkabgmdjfiidhaaGreatDoorZNmDrop
import Derived.Test.YtkabgmdjfiidhaaGreatDoorZHRead4
set_option maxHeartbeats 0
set_option maxRecDepth 99999
open Nat renaming le_refl->F
open Option renaming some->Z,none->J
open List renaming getElem?_eq_some_iff->I,getElem?_append_left->T,length_take->ac
open Go.World renaming cell?_of_block->G
open Go.Proofs.Tryz renaming prog->E,underlying56->ab
open Go.RowKit.Below renaming refl->Y
open Go.Value renaming slice->C,string->aa,pointer->ad,int->ae
namespace Go.Proofs.YtkabgmdjfiidhaaGreatDoor
open Go.RowKit
theorem Rk:(E.info? 45).map (λi=>(i.8,i.3,i.4))=Z (Z (.agg #[aa ⟨#[]⟩,aa ⟨#[]⟩,ae .i64 0]),3,40):=K
def IK(B:Nat)(w:World)(a:Option Addr)(ns:List Nm):Prop:=∀(j:Nat) x,ns[j]?=Z x->∃g,a=Z ⟨g,0,J⟩/\B<=g/\g<w.1.size/\w.cell? ⟨g,j*3,J⟩=Z (aa x.1)/\w.cell? ⟨g,j*3+1,J⟩=Z (aa x.2)/\w.cell? ⟨g,j*3+2,J⟩=Z (ae .i64 x.3)
theorem OB{w:World}{base:Nat}{a:Option Addr}{cap n:Nat}{ls:List Nm}(h:w.ownsRow base 45 3 (C a n cap) n (Bf ls))(l:ls.length=n):IK base w a ls:=λj x hx=>by
 subst l;have k:j<ls.length:=(I.1 hx).1;rcases h.2 with⟨d,m⟩|⟨g,c,cur,d,e,f,-⟩
 ·omega
 ·cases d;have b:∀i,i<3->w.cell? ⟨g,j*3+i,J⟩=(nc x)[i]?:=λi hi=>(h.cellAt (j*3+i) O).trans (Jl ls j x hx i hi);exact⟨g,rfl,e,(Array.getElem?_eq_some_iff.1 f).1,b 0 O,b 1 O,b 2 O⟩
theorem NB.news{w w':World}{b t o:Nat}{pre post:List Value}{ns rest:List Nm}(h:NB w b t o pre post ns rest)(e:Below w.1.size w w'):(Bf ns).length=ns.length*3/\∀j u,(Bf ns)[j]?=Z u->w'.cell? ((⟨b,o,J⟩:Addr).add j)=Z u:=by
 refine⟨AT ns,λj u c=>?_⟩;have a:=(I.1 c).1;rw[DY];refine(e.cell (p:=⟨b,o+j,J⟩) h.lt).trans ?_;have f:(pre++(Bf (ns++rest)++ae .i64 (ns.length:Int)::post))[o+j]?=Z u:=by have d:=h.3;rw[List.getElem?_append_right O,d,show o+j-o=j by omega,T (by rw[AT,List.length_append];rw[AT]at a;omega),EB,T a];exact c
 simp only[World.cell?,h.1];simpa using f
theorem NZ(b o n cap:Nat)(ns:List Nm)(w:World)(y:ns.length=n)(H:n<=1000)(s:(Bf ns).length=n*3/\∀W',Below w.1.size w W'->∀j u,(Bf ns)[j]?=Z u->W'.cell? ((⟨b,o,J⟩:Addr).add j)=Z u):Calls E 178 #[C (Z ⟨b,o,J⟩) n cap] w λe w'=>(∃a c,e=.returned (C a n c)/\IK w.1.size w' a ns)/\Below w.1.size w w':=by obtain⟨D,x,g,h,i⟩:=Aj Rk;have z:=Aa x;have k:=Aa g;have l:=Aa h;have m:=Aa i;clear x g h i;have p:=Aa s.1;have q:=Aa (s.2 _ ((Y w.1.size w).alloc (F _) (.cells #[] 45)));have v:=Aa (Fk (base:=w.1.size) (size:=3) (heap_alloc_new w (.cells #[] 45)) (F _));have A:=Aa y;clear s y;have L:∀W,(binOp .eql 56 (C (Z ⟨b,o,J⟩) n cap) (C J 0 0)).run E W=.ok (.bool false) W:=λW=>Lib.run_eql_slice_nil W 56 45 _ n cap 0 0 ab;go_enter Tryz.func178,Tryz.ntmps178;go_wp2_with(at_builtin;go_must(refine wpList_append_own _ rfl _ _ 56 rfl w.1.size 45 D _ 3 40 ab z.o k.o l.o m.o rfl oD (C (Z ⟨w.1.size,0,J⟩) 0 0) 0 [] rfl v.o ⟨b,o,J⟩ n cap (Bf ns) rfl p.o q.o (EC _) (by unfold maxLen;omega) O oS ?_));intro M w1 d f _;have r:Below w.1.size w w1:=AB (base:=w.1.size) (W:=w.alloc (.cells #[] 45)) ((Y _ _).alloc (F _) _) v.o f oS (F _);obtain⟨B,c1,rfl⟩:=Ah d;have t:=Aa (OB (by simpa using d) (by simpa using A.o));clear d f;go_wp2;go_ret;exact⟨⟨B,c1,rfl,t.o⟩,r⟩
theorem Pg(b t o:Nat)(pre post:List Value)(ns rest:List Nm)(w:World)(h:NB w b t o pre post ns rest):Calls E 113 #[ad (Z ⟨b,o,J⟩)] w λe w'=>(∃a c,e=.returned (C a ns.length c)/\IK w.1.size w' a ns)/\Below w.1.size w w':=by
 have k:=h.lt;have u:=h.2;have q:=h.many;obtain⟨n,i⟩:∃n,Hid (ns.length=n):=⟨_,rfl⟩;have p:n<=20:=by rw[<-i.o];omega
 have HC:Hid (∀W,Below w.1.size w W->Calls E 178 #[C (Z ⟨b,o,J⟩) n 20] W λe w'=>(∃a c,e=.returned (C a n c)/\IK w.1.size w' a ns)/\Below W.1.size W w'):=Aa λW m=>by refine(NZ b o n 20 ns W i.o O ⟨by rw[<-i.o];exact AT ns,λA f=>((h.below m k).news f).2⟩).mono ?_;rintro e w' ⟨⟨a,c,y,z⟩,f⟩;exact⟨⟨a,c,y,λj x hx=>by obtain⟨g,r,s,v⟩:=z j x hx;exact⟨g,r,Nat.le_trans m.4 s,v⟩⟩,f⟩
 rw[i.o]at q⊢;have B:∀W,(Instr.sliceAt 105 (ad (Z ⟨b,o,J⟩)) J (Z (ae .i64 (n:Int))) J).run E W=.ok (C (Z ⟨b,o,J⟩) n 20) W:=λW=>by rw[run_sliceAt_array_h W 105 _ Md _ _ O (by rw[FD];omega),JE,FD];simp only[Result.andThen,slicedAt,Int.toNat_natCast,DY];simp
 clear h;go_enter Tryz.func113,Tryz.ntmps113;go_wp2_with fail;go_region_with(go_at_call 178;refine(HC.o _ (by first|exact Y _ _|exact(Y _ _).drew)).mono ?_;rintro e D ⟨⟨a4,c4,rfl,l⟩,d⟩);all_goals
  go_wp2;go_ret;exact⟨⟨_,_,rfl,l⟩,⟨d.1,d.2,d.3,d.4,d.5⟩⟩
def LK:List Nm:=List.replicate 20 ⟨⟨#[]⟩,⟨#[]⟩,0⟩
def U6:Array Value:=(([]:List Value)++(Bf ([]++LK)++ae .i64 (([]:List Nm).length:Int)::[])).toArray
theorem NB.zero(w:World)(t:Nat):NB (w.alloc (.cells U6 t)) w.1.size t 0 [] [] [] LK:=⟨heap_alloc_new w _,rfl,rfl⟩
theorem Tv{l:List Nm}{x:Nm}(h:∀y∈l,Gx y.1 x.1=true):Gd l x=l++[x]:=by
 induction l with
 |nil=>rfl
 |cons y r ih=>have a:=h y oS;rw[Gd,if_neg (Ep a),if_pos a,ih (λz b=>h z (by simp[b]))];rfl
theorem R3{ns:List Nm}{k:Nat}{x:Nm}(e:An ns)(f:AM x=true)(hx:ns[k]?=Z x)(i:ns.length<=20):Bo (ns.take k) x=0/\CX (ns.take k) x=ns.take (k+1):=by
 obtain⟨d,g⟩:=I.1 hx;have a:Bo (ns.take k) x=0:=by unfold Bo;rw[if_pos f,if_neg];rw[Bool.and_eq_true,decide_eq_true_eq];rintro⟨-,b⟩;rw[ac]at b;omega
 refine⟨a,?_⟩;unfold CX;rw[if_pos a,Tv,List.take_add_one,hx]
 ·rfl
 ·intro y h;obtain⟨j,c,rfl⟩:=List.getElem_of_mem h;rw[ac]at c;rw[List.getElem_take,<-g];exact List.pairwise_iff_getElem.1 e j k O d O
theorem FC(H t:Nat)(pre post:List Value)(ns rest:List Nm)(w:World)(N:NB w H t 6 pre post ns rest)(ho:An ns)(hr:∀x∈ns,AM x=true):Calls E 40 #[ad (Z ⟨H,0,J⟩)] w λe w'=>∃b rest',e=.returned (ad (Z ⟨b,0,J⟩))/\Hid (w.1.size<=b/\NB w' b 107 0 [] [] ns rest'/\Below w.1.size w w'):=by
 have p:=N.lt;have R:=N.2;have hz:=NB.zero w 107;have l:Below w.1.size w (w.alloc (.cells U6 107)):=(Y _ _).alloc (F _) _;have f:=Aa (Pg H t 6 pre post ns rest _ (N.below l p));obtain⟨n,L⟩:∃n,Hid (ns.length=n):=⟨_,rfl⟩;rw[L.o]at f R;have Q:=Aa hz;have X:=Aa ho;have HR:=Aa hr;have q:=Aa l;clear N ho hr hz l;go_enter Tryz.func40,Tryz.ntmps40;go_wp2_with(go_at_call 113;go_must(refine f.o.mono ?_);rintro e w1 ⟨⟨a,c,rfl,hc⟩,v⟩;refine Hid.out ?_);refine Aa ?_;have HC:=Aa hc;have s:=Aa v;have B:n<=20:=O;clear hc v f;go_wp2;go_loopw[12] (λi wr=>∃k:Nat,k<=n/\i=ae .i64 k/\Hid ((∃r,NB wr w.1.size 107 0 [] [] (ns.take k) r)/\w1.grownBy wr (Z w.1.size))) (λi _=>n-(intOf i).toNat);case atStart=>exact⟨0,Nat.zero_le _,rfl,Aa ⟨⟨_,Q.o.below s.o Q.o.lt⟩,⟨rfl,rfl,rfl,F _,λ_ _ _=>rfl⟩⟩⟩
 case round=>
  obtain⟨k,hk,rfl,S⟩:=hrel;obtain⟨⟨r,d⟩,z⟩:=S.o;by_cases p:k<n
  ·obtain⟨x,hx⟩:∃x,ns[k]?=Z x:=⟨_,List.getElem?_eq_getElem (by rw[L.o];exact p)⟩;obtain⟨g,rfl,U,V,c0,c1,c2⟩:=HC.o k x hx;have h:=HR.o x (List.mem_of_getElem? hx);have a0:w.1.size<g:=Nat.lt_of_lt_of_le Q.o.lt U;have M:wr.1[g]?=w1.1[g]?:=z.5 g V (λe=>by have:=Option.some.inj e;omega);have q0:=(G (a:=⟨g,k*3,J⟩) M).trans c0;have q1:=(G (a:=⟨g,k*3+1,J⟩) M).trans c1;have q2:=(G (a:=⟨g,k*3+2,J⟩) M).trans c2;have HS:=Aa (R3 X.o h hx (by rw[L.o];exact B));have W:x.wf:=⟨by have:=(CC h).1;unfold maxLen;omega,by have:=(CC h).2;unfold maxLen;omega⟩;have m:Below wr.1.size wr (wr.alloc (.cells #[aa x.1,aa x.2,ae .i64 x.3] 45)):=(Y _ _).alloc (F _) _;have D:An (ns.take k):=X.o.sublist (List.take_sublist _ _);have j:=Aa (LN w.1.size 107 0 [] [] (ns.take k) r x _ (d.below m d.lt) D W);have u:=Aa (Bk z m);clear c0 c1 c2 M hx h D S d z m;go_wp2_with(go_at_call 41;go_must(refine j.o.mono ?_);rintro e w4 ⟨rfl,y,A⟩;refine Hid.out ?_);refine Aa ?_;have P:Hid ((∃r,NB w4 w.1.size 107 0 [] [] (ns.take (k+1)) r)/\w1.grownBy w4 (Z w.1.size)):=Aa (by rw[<-HS.o.2];exact⟨y,Ag u.o A⟩);clear y A j u HS q0 q1 q2;go_wp2;go_roundw;case rel=>exact⟨k+1,O,by go_num,P⟩
   case measure=>simp[intOf];omega
  ·obtain rfl:k=n:=O;have HT:Hid (ns.take k=ns):=Aa (List.take_of_length_le (by rw[L.o];exact F _));go_wp2;go_ret;obtain⟨⟨r,d⟩,z⟩:=S.o;rw[HT.o]at d;exact⟨w.1.size,r,rfl,Aa ⟨F _,d,BG (Ab q.o q.o.4 s.o) z (F _)⟩⟩
end Go.Proofs.YtkabgmdjfiidhaaGreatDoor
