import Derived.Test.YtgkcfpbndgfdlaaGreatDoorZNmDrop
import Derived.Test.YtgkcfpbndgfdlaaGreatDoorZHRead4
set_option linter.all false
set_option maxHeartbeats 0
set_option maxRecDepth 99999
open Nat renaming le_refl->F
open Option renaming some->Z,none->J
open List renaming getElem?_eq_some_iff->I,getElem?_append_left->T,length_take->ac
open Go.World renaming cell?_of_block->G
open Go.Proofs.Tryz renaming prog->E,underlying166->ab
open Go.RowKit.Below renaming refl->Y
open Go.Value renaming slice->C,string->aa,pointer->ad,int->ae
namespace Go.Proofs.YtgkcfpbndgfdlaaGreatDoor
open Go.RowKit
theorem Rn:(E.info? 79).map (λi=>(i.8,i.3,i.4))=Z (Z (.agg #[aa ⟨#[]⟩,aa ⟨#[]⟩,ae .i64 0]),3,40):=K
def Lw(B:Nat)(w:World)(a:Option Addr)(ns:List Nm):Prop:=∀(j:Nat) x,ns[j]?=Z x->∃g,a=Z ⟨g,0,J⟩/\B<=g/\g<w.1.size/\w.cell? ⟨g,j*3,J⟩=Z (aa x.1)/\w.cell? ⟨g,j*3+1,J⟩=Z (aa x.2)/\w.cell? ⟨g,j*3+2,J⟩=Z (ae .i64 x.3)
theorem OW{w:World}{base:Nat}{a:Option Addr}{c n:Nat}{b:List Nm}(h:w.ownsRow base 79 3 (C a n c) n (BD b))(m:b.length=n):Lw base w a b:=λj x hx=>by
 subst m;have l:j<b.length:=(I.1 hx).1;rcases h.2 with⟨h0,h1⟩|⟨g,d,e,h0,f,hg,-⟩
 ·omega
 ·cases h0;have hc:∀i,i<3->w.cell? ⟨g,j*3+i,J⟩=(nc x)[i]?:=λi k=>(h.cellAt (j*3+i) O).trans (T4 b j x hx i k);exact⟨g,rfl,f,(Array.getElem?_eq_some_iff.1 hg).1,hc 0 O,hc 1 O,hc 2 O⟩
theorem NB.news{w w':World}{b t o:Nat}{pre post:List Value}{ns rest:List Nm}(h:NB w b t o pre post ns rest)(c:Below w.1.size w w'):(BD ns).length=ns.length*3/\∀j u,(BD ns)[j]?=Z u->w'.cell? ((⟨b,o,J⟩:Addr).add j)=Z u:=by
 refine⟨AT ns,λj u hj=>?_⟩;have a:=(I.1 hj).1;rw[DO];refine(c.cell (p:=⟨b,o+j,J⟩) h.lt).trans ?_;have hc:(pre++(BD (ns++rest)++ae .i64 (ns.length:Int)::post))[o+j]?=Z u:=by have h1:=h.3;rw[List.getElem?_append_right O,h1,show o+j-o=j by omega,T (by rw[AT,List.length_append];rw[AT]at a;omega),Gq,T a];exact hj
 simp only[World.cell?,h.1];simpa using hc
theorem Ou(b o n g:Nat)(ns:List Nm)(w:World)(x:ns.length=n)(D:n<=1000)(hc:(BD ns).length=n*3/\∀W',Below w.1.size w W'->∀j u,(BD ns)[j]?=Z u->W'.cell? ((⟨b,o,J⟩:Addr).add j)=Z u):Calls E 145 #[C (Z ⟨b,o,J⟩) n g] w λe w'=>(∃a c,e=.returned (C a n c)/\Lw w.1.size w' a ns)/\Below w.1.size w w':=by obtain⟨B,hj,h,i,k⟩:=Av Rn;have y:=Aa hj;have l:=Aa h;have m:=Aa i;have p:=Aa k;clear hj h i k;have q:=Aa hc.1;have r:=Aa (hc.2 _ ((Y w.1.size w).alloc (F _) (.cells #[] 79)));have v:=Aa (QP (base:=w.1.size) (size:=3) (heap_alloc_new w (.cells #[] 79)) (F _));have z:=Aa x;clear hc x;have H:∀W,(binOp .eql 166 (C (Z ⟨b,o,J⟩) n g) (C J 0 0)).run E W=.ok (.bool false) W:=λW=>Lib.run_eql_slice_nil W 166 79 _ n g 0 0 ab;go_enter Tryz.func145,Tryz.ntmps145;go_wp2_with(at_builtin;go_must(refine wpList_append_own _ rfl _ _ 166 rfl w.1.size 79 B _ 3 40 ab y.o l.o m.o p.o rfl oD (C (Z ⟨w.1.size,0,J⟩) 0 0) 0 [] rfl v.o ⟨b,o,J⟩ n g (BD ns) rfl q.o r.o (IM _) (by unfold maxLen;omega) O oS ?_));intro L w1 d f _;have s:Below w.1.size w w1:=AW (base:=w.1.size) (W:=w.alloc (.cells #[] 79)) ((Y _ _).alloc (F _) _) v.o f oS (F _);obtain⟨A,c1,rfl⟩:=Ao d;have t:=Aa (OW (by simpa using d) (by simpa using z.o));clear d f;go_wp2;go_ret;exact⟨⟨A,c1,rfl,t.o⟩,s⟩
theorem Vy(b t o:Nat)(pre post:List Value)(ns rest:List Nm)(w:World)(h:NB w b t o pre post ns rest):Calls E 111 #[ad (Z ⟨b,o,J⟩)] w λe w'=>(∃a c,e=.returned (C a ns.length c)/\Lw w.1.size w' a ns)/\Below w.1.size w w':=by
 have k:=h.lt;have r:=h.2;have q:=h.many;obtain⟨n,i⟩:∃n,Hid (ns.length=n):=⟨_,rfl⟩;have p:n<=20:=by rw[<-i.o];omega
 have HC:Hid (∀W,Below w.1.size w W->Calls E 145 #[C (Z ⟨b,o,J⟩) n 20] W λe w'=>(∃a c,e=.returned (C a n c)/\Lw w.1.size w' a ns)/\Below W.1.size W w'):=Aa λW m=>by refine(Ou b o n 20 ns W i.o O ⟨by rw[<-i.o];exact AT ns,λy f=>((h.below m k).news f).2⟩).mono ?_;rintro e w' ⟨⟨a,c,u,v⟩,f⟩;exact⟨⟨a,c,u,λj x hx=>by obtain⟨g,h1,h2,s⟩:=v j x hx;exact⟨g,h1,Nat.le_trans m.4 h2,s⟩⟩,f⟩
 rw[i.o]at q⊢;have z:∀W,(Instr.sliceAt 80 (ad (Z ⟨b,o,J⟩)) J (Z (ae .i64 (n:Int))) J).run E W=.ok (C (Z ⟨b,o,J⟩) n 20) W:=λW=>by rw[run_sliceAt_array_h W 80 _ MG _ _ O (by rw[FF];omega),JL,FF];simp only[Result.andThen,slicedAt,Int.toNat_natCast,DO];simp
 clear h;go_enter Tryz.func111,Tryz.ntmps111;go_wp2_with fail;go_region_with(go_at_call 145;refine(HC.o _ (by first|exact Y _ _|exact(Y _ _).drew)).mono ?_;rintro e A ⟨⟨a4,c4,rfl,l⟩,d⟩);all_goals
  go_wp2;go_ret;exact⟨⟨_,_,rfl,l⟩,⟨d.1,d.2,d.3,d.4,d.5⟩⟩
def Ml:List Nm:=List.replicate 20 ⟨⟨#[]⟩,⟨#[]⟩,0⟩
def Vo:Array Value:=(([]:List Value)++(BD ([]++Ml)++ae .i64 (([]:List Nm).length:Int)::[])).toArray
theorem NB.zero(w:World)(t:Nat):NB (w.alloc (.cells Vo t)) w.1.size t 0 [] [] [] Ml:=⟨heap_alloc_new w _,rfl,rfl⟩
theorem TI{l:List Nm}{x:Nm}(h:∀y∈l,Kt y.1 x.1=true):GI l x=l++[x]:=by
 induction l with
 |nil=>rfl
 |cons y r ih=>have h1:=h y oS;rw[GI,if_neg (Er h1),if_pos h1,ih (λz a=>h z (by simp[a]))];rfl
theorem RS{ns:List Nm}{k:Nat}{x:Nm}(b:Aw ns)(c:Bf x=true)(hx:ns[k]?=Z x)(e:ns.length<=20):Dj (ns.take k) x=0/\Cd (ns.take k) x=ns.take (k+1):=by
 obtain⟨hk,hv⟩:=I.1 hx;have a:Dj (ns.take k) x=0:=by unfold Dj;rw[if_pos c,if_neg];rw[Bool.and_eq_true,decide_eq_true_eq];rintro⟨-,h2⟩;rw[ac]at h2;omega
 refine⟨a,?_⟩;unfold Cd;rw[if_pos a,TI,List.take_add_one,hx]
 ·rfl
 ·intro y d;obtain⟨j,hj,rfl⟩:=List.getElem_of_mem d;rw[ac]at hj;rw[List.getElem_take,<-hv];exact List.pairwise_iff_getElem.1 b j k O hk O
theorem J9(H t:Nat)(pre post:List Value)(ns rest:List Nm)(w:World)(M:NB w H t 6 pre post ns rest)(X:Aw ns)(hr:∀x∈ns,Bf x=true):Calls E 74 #[ad (Z ⟨H,0,J⟩)] w λe w'=>∃b rest',e=.returned (ad (Z ⟨b,0,J⟩))/\Hid (w.1.size<=b/\NB w' b 82 0 [] [] ns rest'/\Below w.1.size w w'):=by
 have p:=M.lt;have Q:=M.2;have hz:=NB.zero w 82;have l:Below w.1.size w (w.alloc (.cells Vo 82)):=(Y _ _).alloc (F _) _;have f:=Aa (Vy H t 6 pre post ns rest _ (M.below l p));obtain⟨n,D⟩:∃n,Hid (ns.length=n):=⟨_,rfl⟩;rw[D.o]at f Q;have P:=Aa hz;have W:=Aa X;have HR:=Aa hr;have q:=Aa l;clear M X hr hz l;go_enter Tryz.func74,Tryz.ntmps74;go_wp2_with(go_at_call 111;go_must(refine f.o.mono ?_);rintro e w1 ⟨⟨a,c,rfl,hc⟩,v⟩;refine Hid.out ?_);refine Aa ?_;have HC:=Aa hc;have s:=Aa v;have A:n<=20:=O;clear hc v f;go_wp2;go_loopw[12] (λi wr=>∃k:Nat,k<=n/\i=ae .i64 k/\Hid ((∃r,NB wr w.1.size 82 0 [] [] (ns.take k) r)/\w1.grownBy wr (Z w.1.size))) (λi _=>n-(intOf i).toNat);case atStart=>exact⟨0,Nat.zero_le _,rfl,Aa ⟨⟨_,P.o.below s.o P.o.lt⟩,⟨rfl,rfl,rfl,F _,λ_ _ _=>rfl⟩⟩⟩
 case round=>
  obtain⟨k,hk,rfl,R⟩:=hrel;obtain⟨⟨r,d⟩,hg⟩:=R.o;by_cases p:k<n
  ·obtain⟨x,hx⟩:∃x,ns[k]?=Z x:=⟨_,List.getElem?_eq_getElem (by rw[D.o];exact p)⟩;obtain⟨g,rfl,S,U,c0,c1,c2⟩:=HC.o k x hx;have h:=HR.o x (List.mem_of_getElem? hx);have a0:w.1.size<g:=Nat.lt_of_lt_of_le P.o.lt S;have L:wr.1[g]?=w1.1[g]?:=hg.5 g U (λe=>by have:=Option.some.inj e;omega);have q0:=(G (a:=⟨g,k*3,J⟩) L).trans c0;have q1:=(G (a:=⟨g,k*3+1,J⟩) L).trans c1;have q2:=(G (a:=⟨g,k*3+2,J⟩) L).trans c2;have HS:=Aa (RS W.o h hx (by rw[D.o];exact A));have V:x.wf:=⟨by have:=(CY h).1;unfold maxLen;omega,by have:=(CY h).2;unfold maxLen;omega⟩;have m:Below wr.1.size wr (wr.alloc (.cells #[aa x.1,aa x.2,ae .i64 x.3] 79)):=(Y _ _).alloc (F _) _;have B:Aw (ns.take k):=W.o.sublist (List.take_sublist _ _);have j:=Aa (Mn w.1.size 82 0 [] [] (ns.take k) r x _ (d.below m d.lt) B V);have u:=Aa (AP hg m);clear c0 c1 c2 L hx h B R d hg m;go_wp2_with(go_at_call 75;go_must(refine j.o.mono ?_);rintro e w4 ⟨rfl,y,z⟩;refine Hid.out ?_);refine Aa ?_;have N:Hid ((∃r,NB w4 w.1.size 82 0 [] [] (ns.take (k+1)) r)/\w1.grownBy w4 (Z w.1.size)):=Aa (by rw[<-HS.o.2];exact⟨y,Ak u.o z⟩);clear y z j u HS q0 q1 q2;go_wp2;go_roundw;case rel=>exact⟨k+1,O,by go_num,N⟩
   case measure=>simp[intOf];omega
  ·obtain rfl:k=n:=O;have HT:Hid (ns.take k=ns):=Aa (List.take_of_length_le (by rw[D.o];exact F _));go_wp2;go_ret;obtain⟨⟨r,d⟩,hg⟩:=R.o;rw[HT.o]at d;exact⟨w.1.size,r,rfl,Aa ⟨F _,d,B6 (Ad q.o q.o.4 s.o) hg (F _)⟩⟩
end Go.Proofs.YtgkcfpbndgfdlaaGreatDoor
