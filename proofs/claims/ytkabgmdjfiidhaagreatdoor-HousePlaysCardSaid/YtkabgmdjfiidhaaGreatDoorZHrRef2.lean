import Derived.Test.YtkabgmdjfiidhaaGreatDoorZNmMap
import Derived.Test.YtkabgmdjfiidhaaGreatDoorZNmSet
import Derived.Laws.ResultCell
set_option maxHeartbeats 0
set_option maxRecDepth 99999
open Go.Value renaming string->F,int->ag,pointer->ah,bool->ap,tuple->aq
open Option renaming none->Z,some->I
open List renaming getElem?_eq_some_iff->J,getElem?_eq_getElem->Y
open Go renaming Value->G,World->T,setCell_eq_setRow->af,setRow_heap->ai,bodyPost_ret->am,Calls->an
open Array renaming getElem?_eq_some_iff->E
open Go.Proofs.Tryz renaming ntmps116->C,prog->ab,func116->ac,ntmps130->aj,func130->ak,ntmps43->al,func43->ao
open Nat renaming le_refl->aa
open Go.Obj renaming cells->ad
open Go.RowKit.Hid renaming out->ae
namespace Go.Proofs.YtkabgmdjfiidhaaGreatDoor
section
open Go.RowKit
theorem Xs(b:Nat)(w:T)(v0 a v2:G)(c:w.cell? ⟨b,0,Z⟩=I v0)(d:w.cell? ⟨b,1,Z⟩=I a)(e:w.cell? ⟨b,2,Z⟩=I v2):(loadVar 45 ⟨b,0,Z⟩).run ab w=.ok (.agg #[v0,a,v2]) w:=by simp[go_sem,c,d,e]
theorem WV{fn:Func}{p u:Tmp}(h:fn.8=#[.cell p 45,.tmp u])(tmps:Array G)(w:T)(b:Nat)(v0 a v2:G)(f:tmps.getD p undef=ah (I ⟨b,0,Z⟩))(c:w.cell? ⟨b,0,Z⟩=I v0)(d:w.cell? ⟨b,1,Z⟩=I a)(e:w.cell? ⟨b,2,Z⟩=I v2):(results fn tmps).run ab w=.ok (aq #[.agg #[v0,a,v2],tmps.getD u undef]) w:=by rw[results_cell_tmp h,f];simp only[asAddr,Sem.run_pure,Result.andThen_ok,Xs b w v0 a v2 c d e]
theorem SQ{w:T}{X:Nat}{u0 u1 u2:G}(v0 a v2:G)(h:w.1[X]?=I (ad #[u0,u1,u2] 45 (0,0))):(((w.setCell ⟨X,0,Z⟩ v0).setCell ⟨X,1,Z⟩ a).setCell ⟨X,2,Z⟩ v2).1[X]?=I (ad #[v0,a,v2] 45 (0,0)):=by rw[af w X 0 _ _ (0,0) _ h];have b:=ai w X _ (#[u0,u1,u2].setIfInBounds 0 v0) 45 _ h;rw[af _ X 1 _ _ (0,0) _ b];have c:=ai _ X _ ((#[u0,u1,u2].setIfInBounds 0 v0).setIfInBounds 1 a) 45 _ b;rw[af _ X 2 _ _ (0,0) _ c];exact ai _ X _ _ _ _ c
theorem GW{w:T}{X:Nat}{v0 a v2:G}(h:w.1[X]?=I (ad #[v0,a,v2] 45 (0,0))):w.cell? ⟨X,0,Z⟩=I v0/\w.cell? ⟨X,1,Z⟩=I a/\w.cell? ⟨X,2,Z⟩=I v2:=by simp[World.cell?,h]
theorem RR{w:T}{X:Nat}{v0 a v2:G}(h:w.1[X]?=I (ad #[v0,a,v2] 45 (0,0))):w.frozen? ⟨X,0,Z⟩=false/\w.frozen? ⟨X,1,Z⟩=false/\w.frozen? ⟨X,2,Z⟩=false:=by simp[World.frozen?,h]
theorem IP{B X:Nat}{w0 w:T}(h:Below B w0 w)(a:B<=X)(v0 b v2:G):Below B w0 (((w.setCell ⟨X,0,Z⟩ v0).setCell ⟨X,1,Z⟩ b).setCell ⟨X,2,Z⟩ v2):=((h.setCell (p:=⟨X,0,Z⟩) a v0).setCell (p:=⟨X,1,Z⟩) a b).setCell (p:=⟨X,2,Z⟩) a v2
structure RefN(ro rT:Nat)(rcs:Array G)(w:T)(R:Nat)(v:G)(ls:List Nm):Prop where
 here:w.1[R]?=I (ad (rcs.setIfInBounds ro v) rT (0,0))
 lo:ro<rcs.size
 own:w.ownsRow (R+1) 45 3 v ls.length (Bf ls)
variable{ro rT:Nat}{rcs:Array G}
theorem RefN.cell{w:T}{R:Nat}{v:G}{ls:List Nm}(h:RefN ro rT rcs w R v ls):w.cell? ⟨R,ro,Z⟩=I v:=by simp[World.cell?,h.1,h.2]
theorem RefN.lt{w:T}{R:Nat}{v:G}{ls:List Nm}(h:RefN ro rT rcs w R v ls):R<w.1.size:=(E.1 h.1).1
theorem RefN.below{w w':T}{R:Nat}{v:G}{ls:List Nm}(h:RefN ro rT rcs w R v ls)(a:Below w.1.size w w'):RefN ro rT rcs w' R v ls:=⟨(a.5 R h.lt).trans h.1,h.2,h.3.kept (row:=Z) ⟨a.1,a.2,a.3,a.4,λc b _=>a.5 c b⟩ (by cases v.ownBlock<;>simp)⟩
theorem RefN.slice{w:T}{R:Nat}{v:G}{ls:List Nm}(h:RefN ro rT rcs w R v ls):∃a cap,v=.slice a ls.length cap/\∀j x,ls[j]?=I x->∃g,a=I ⟨g,0,Z⟩/\g<w.1.size/\w.cell? ⟨g,j*3,Z⟩=I (F x.1)/\w.cell? ⟨g,j*3+1,Z⟩=I (F x.2)/\w.cell? ⟨g,j*3+2,Z⟩=I (ag .i64 x.3):=by
 have e:=h.3;rcases h.3.2 with⟨rfl,d⟩|⟨g,cap,cur,rfl,l,f,-⟩
 ·refine⟨Z,0,by rw[d],λj m b=>?_⟩;obtain rfl:=List.length_eq_zero_iff.1 d;simp at b
 ·refine⟨_,cap,rfl,λj m b=>⟨g,rfl,(E.1 f).1,?_⟩⟩;have k:j<ls.length:=(J.1 b).1;have c:∀i,i<3->w.cell? ⟨g,j*3+i,Z⟩=(nc m)[i]?:=λi hi=>(e.cellAt (j*3+i) O).trans (Jl ls j m b i hi);exact⟨c 0 O,c 1 O,c 2 O⟩
def Sz(x:Option Nm):Nm:=x.getD zeroNm
theorem Jg{ls:List Nm}{k:Nat}{x:Nm}(hx:ls[k]?=I x)(h:∀(j:Nat) y,ls[j]?=I y->j<k->y.1≠x.1):AK ls x.1=I x:=by unfold AK;refine List.find?_eq_some_iff_getElem.2 ⟨oS,k,(J.1 hx).1,(J.1 hx).2,λj a=>?_⟩;simpa using h j _ (Y (Nat.lt_trans a (J.1 hx).1)) a
theorem Ko{ls:List Nm}{n:Nat}{s:ByteArray}(b:ls.length=n)(h:∀(j:Nat) y,ls[j]?=I y->j<n->y.1≠s):AK ls s=Z:=by apply Kq;intro x hx;obtain⟨j,a,rfl⟩:=List.getElem_of_mem hx;exact h j _ (Y a) O
theorem LC(R:Nat)(v:G)(ls:List Nm)(s:ByteArray)(w:T)(t:RefN ro rT rcs w R v ls)(U:ls.length<=1000):an ab 117 #[ah (I ⟨R,ro,Z⟩),F s] w λe w'=>e=.returned (aq #[(Sz (AK ls s)).val,ap (AK ls s).isSome])/\Below w.1.size w w':=by
 have S:=t.cell;have P:=t.lt;obtain⟨a,cap,rfl,u⟩:=t.slice;have u:=Aa u;obtain⟨n,A⟩:∃n,Hid (ls.length=n):=⟨_,rfl⟩;rw[A.o]at S U;clear t;go_enter Tryz.func117,Tryz.ntmps117;go_wp2;go_loopw[13] (λi wr=>∃k:Nat,k<=n/\i=ag .i64 k/\(∀(j:Nat) x,ls[j]?=I x->j<k->x.1≠s)/\wr.1[w.1.size]?=I (ad #[F ⟨#[]⟩,F ⟨#[]⟩,ag .i64 0] 45 (0,0))/\Below w.1.size w wr) (λi _=>n-(intOf i).toNat);case atStart=>exact⟨0,Nat.zero_le _,rfl,λj x _ h=>O,heap_alloc_new w _,(Below.refl _ _).alloc (aa _) _⟩
 case round=>
  obtain⟨k,hk,rfl,r,c,l⟩:=hrel;obtain⟨r0,r1,r2⟩:=GW c;obtain⟨q0,q1,q2⟩:=RR c;have Q:w.1.size<wr.1.size:=(E.1 c).1;have f:=Aa r;have d:=Aa c;clear r c;by_cases D:k<n
  ·obtain⟨x,hx⟩:∃x,ls[k]?=I x:=⟨_,Y (by rw[A.o];exact D)⟩;obtain⟨g,rfl,m,c0,c1,c2⟩:=u.o k x hx;have V:=(l.cell (p:=⟨g,k*3,Z⟩) m).trans c0;have W:=(l.cell (p:=⟨g,k*3+1,Z⟩) m).trans c1;have X:=(l.cell (p:=⟨g,k*3+2,Z⟩) m).trans c2;have L:=Aa hx;clear hx c0 c1 c2;by_cases b:x.1=s
   ·have N:=Cb b;have z:Hid (AK ls s=I x):=by rw[<-b];exact Aa (Jg L.o (by rw[b];exact f.o))
    clear b;go_wp2;obtain⟨z0,H,z2⟩:=GW (A6 (o:=ad #[F x.1,F x.2,ag .i64 x.3] 45) (SQ (F x.1) (F x.2) (ag .i64 x.3) d.o))
    (try simp only[Exit.inBlock,Exit.then]);refine am (WV rfl _ _ w.1.size (F x.1) (F x.2) (ag .i64 x.3) rfl z0 H z2) rfl ?_;have q:=(IP l (aa _) (F x.1) (F x.2) (ag .i64 x.3));exact⟨by rw[z.o];rfl,q.alloc q.4 _⟩
   ·have N:=DE b;go_wp2;go_roundw;case rel=>
     refine⟨k+1,O,by go_num,λj y M hj=>?_,A6 d.o,l.alloc l.4 _⟩;by_cases B:j=k
     ·subst B;obtain rfl:=Option.some.inj (M.symm.trans L.o);exact b
     ·exact f.o j y M O
    case measure=>simp[intOf];omega
  ·obtain rfl:k=n:=O;have z:=Aa (Ko A.o f.o);go_wp2;obtain⟨z0,H,z2⟩:=GW (SQ (F ⟨#[]⟩) (F ⟨#[]⟩) (ag .i64 0) d.o)
   (try simp only[Exit.inBlock,Exit.then]);refine am (WV rfl _ _ w.1.size (F ⟨#[]⟩) (F ⟨#[]⟩) (ag .i64 0) rfl z0 H z2) rfl ?_;exact⟨by rw[z.o];rfl,IP l (aa _) _ _ _⟩
end
section
open Go.RowKit
variable{ro rT:Nat}{rcs:Array G}
theorem J0(x:Nm)(w:T)(j:x.1.size<=maxLen)(k:x.2.size<=maxLen):an ab 116 #[x.val] w λe w'=>e=.returned (ap (AM x))/\Below w.1.size w w':=by
 have a:Hid (AM x=(Bm x.1 8&&B2 x.3 (-1) 3&&(Bm x.2 8||(x.2.toList.isEmpty&&(x.3== -1))))):=by
  have e:decide (x.3<4)=decide (x.3<=3):=by rw[decide_eq_decide];omega
  show _=_;simp only[AM,B2,Nm.own,e];cases Bm x.1 8<;>cases Bm x.2 8<;>cases decide (-1<=x.3)<;>cases decide (x.3<=3)<;>simp
 have b:=Aa (λw=>CB x.1 w j);have i:=Aa (λw=>CB x.2 w k);have g:=Aa (λw=>Dt x.3 (-1) 3 w);obtain⟨n,d⟩:∃q,Hid (Bm x.1 8=q):=⟨_,rfl⟩;obtain⟨lt,f⟩:∃q,Hid (Bm x.2 8=q):=⟨_,rfl⟩;obtain⟨m,c⟩:∃q,Hid (B2 x.3 (-1) 3=q):=⟨_,rfl⟩;rw[d.o,f.o,c.o]at a;rw[d.o]at b;rw[f.o]at i;rw[c.o]at g;clear d f c j k;generalize AM x=rx at a⊢;obtain⟨name,l,house⟩:=x;simp only[Nm.val]at a b i g⊢;have h:=(Below.refl w.1.size w).alloc (aa _) (ad #[F name,F l,ag .i64 house] 45);cases n
 ·go_enter ac,C;go_wp2_with(go_at_call 164;go_must(refine(b.o _).mono ?_);rintro e w2 ⟨rfl,rfl⟩);go_ret;exact⟨Ao (by rw[a.o];rfl),h⟩
 cases m
 ·go_enter ac,C;go_wp2_with(first|(go_at_call 164;go_must(refine(b.o _).mono ?_);rintro e w2 ⟨rfl,rfl⟩)|(go_at_call 120;go_must(refine(g.o _).mono ?_);rintro e w2 ⟨rfl,rfl⟩));go_ret;exact⟨Ao (by rw[a.o];rfl),h⟩
 cases lt
 ·cases h3:l.toList.isEmpty
  ·rw[h3]at a;go_enter ac,C;go_wp2_with(go_at_call 164;go_must(refine(b.o _).mono ?_);rintro e w2 ⟨rfl,rfl⟩;refine ae ?_);refine Aa ?_;go_wp2_with(go_at_call 120;go_must(refine(g.o _).mono ?_);rintro e w2 ⟨rfl,rfl⟩;refine ae ?_);refine Aa ?_;go_wp2_with(go_at_call 164;go_must(refine(i.o _).mono ?_);rintro e w2 ⟨rfl,rfl⟩);go_ret;exact⟨Ao (by rw[a.o];rfl),h⟩
  ·rw[h3]at a;cases h4:(house== -1);all_goals
    rw[h4]at a;go_enter ac,C;go_wp2_with(go_at_call 164;go_must(refine(b.o _).mono ?_);rintro e w2 ⟨rfl,rfl⟩;refine ae ?_);refine Aa ?_;go_wp2_with(go_at_call 120;go_must(refine(g.o _).mono ?_);rintro e w2 ⟨rfl,rfl⟩;refine ae ?_);refine Aa ?_;go_wp2_with(go_at_call 164;go_must(refine(i.o _).mono ?_);rintro e w2 ⟨rfl,rfl⟩);go_ret;exact⟨Ao (by rw[a.o];rfl),h⟩
 ·go_enter ac,C;go_wp2_with(go_at_call 164;go_must(refine(b.o _).mono ?_);rintro e w2 ⟨rfl,rfl⟩;refine ae ?_);refine Aa ?_;go_wp2_with(go_at_call 120;go_must(refine(g.o _).mono ?_);rintro e w2 ⟨rfl,rfl⟩;refine ae ?_);refine Aa ?_;go_wp2_with(go_at_call 164;go_must(refine(i.o _).mono ?_);rintro e w2 ⟨rfl,rfl⟩);go_ret;exact⟨Ao (by rw[a.o];rfl),h⟩
def Cs(ls:List Nm)(s:ByteArray):Bool:=(AK ls s).isSome&&(Sz (AK ls s)).2.toList.isEmpty
theorem EF(R:Nat)(v:G)(ls:List Nm)(s:ByteArray)(w:T)(d:RefN ro rT rcs w R v ls)(f:ls.length<=1000):an ab 130 #[ah (I ⟨R,ro,Z⟩),F s] w λe w'=>e=.returned (ap (Cs ls s))/\Below w.1.size w w':=by
 have c:=Aa (LC R v ls s w d f);have b:Hid (Cs ls s=((AK ls s).isSome&&(Sz (AK ls s)).2.toList.isEmpty)):=rfl;obtain⟨x,Hx⟩:∃x,Hid (Sz (AK ls s)=x):=⟨_,rfl⟩;obtain⟨q,Hq⟩:∃q,Hid ((AK ls s).isSome=q):=⟨_,rfl⟩;rw[Hx.o,Hq.o]at c b;clear Hx Hq d;obtain⟨i,g,h⟩:=x;simp only[Nm.val]at c b;cases q
 ·go_enter ak,aj;go_wp2_with(go_at_call 117;go_must(refine c.o.mono ?_);rintro e w2 ⟨rfl,a⟩);go_ret;exact⟨Ao (by rw[b.o];rfl),a.alloc a.4 _⟩
 ·cases h3:g.toList.isEmpty;all_goals
   rw[h3]at b;go_enter ak,aj;go_wp2_with(go_at_call 117;go_must(refine c.o.mono ?_);rintro e w2 ⟨rfl,a⟩);go_ret;exact⟨Ao (by rw[b.o];rfl),a.alloc a.4 _⟩
theorem PC(R:Nat)(v:G)(ls:List Nm)(x:Nm)(w:T)(i:RefN ro rT rcs w R v ls)(z:ls.length<=1000)(t:x.wf):an ab 43 #[ah (I ⟨R,ro,Z⟩),x.val] w λe w'=>e=.returned (ag .i64 (Bo ls x))/\Below w.1.size w w':=by
 have j:=Aa (λw=>J0 x w t.1 t.2);have k:Hid (∀W,Below w.1.size w W->an ab 117 #[ah (I ⟨R,ro,Z⟩),F x.1] W λe w'=>e=.returned (aq #[(Sz (AK ls x.1)).val,ap (AK ls x.1).isSome])/\Below W.1.size W w'):=Aa λW s=>LC R v ls x.1 W (i.below s) z;have f:Hid (Bo ls x=if AM x=true then(if(!(AK ls x.1).isSome)&&decide (20<=ls.length)then 12 else 0)else 1):=by show _=_;unfold Bo;cases AK ls x.1<;>simp
 have HC:Hid (∀W,Below w.1.size w W->W.cell? ⟨R,ro,Z⟩=I v):=Aa λW s=>(i.below s).cell;obtain⟨a,cap,rfl,-⟩:=i.slice;obtain⟨n,l⟩:∃n,Hid (ls.length=n):=⟨_,rfl⟩;obtain⟨y,u⟩:∃y,Hid (Sz (AK ls x.1)=y):=⟨_,rfl⟩;obtain⟨q,Hq⟩:∃q,Hid ((AK ls x.1).isSome=q):=⟨_,rfl⟩;obtain⟨r,m⟩:∃q,Hid (AM x=q):=⟨_,rfl⟩;rw[m.o]at j;rw[u.o,Hq.o]at k;rw[m.o,Hq.o,l.o]at f;rw[l.o]at HC z;have D:=i.lt;clear u Hq m l i t;generalize Bo ls x=se at f⊢;obtain⟨N,P,M⟩:=y;obtain⟨A,L,H⟩:=x;simp only[Nm.val]at j k⊢;cases r
 ·go_enter ao,al;go_wp2_with(go_at_call 116;go_must(refine(j.o _).mono ?_);rintro e w2 ⟨rfl,c⟩);go_ret;exact⟨by rw[f.o];rfl,Ab ((Below.refl _ _).alloc (aa _) _) oS c⟩
 ·go_enter ao,al;go_wp2_with(go_at_call 116;go_must(refine(j.o _).mono ?_);rintro e w2 ⟨rfl,c⟩;refine ae ?_);refine Aa ?_;have c0:w2.cell? ⟨w.1.size,0,Z⟩=I (F A):=(c.cell (p:=⟨w.1.size,0,Z⟩) oS).trans oS;have d:=Ab ((Below.refl w.1.size w).alloc (aa _) (ad #[F A,F L,ag .i64 H] 45)) oS c;clear c;go_wp2_with(go_at_call 117;go_must(refine(k.o _ d).mono ?_);rintro e w3 ⟨rfl,h⟩;refine ae ?_);refine Aa ?_;have b:=Ab d d.4 h;have c1:=HC.o _ (b.alloc b.4 (ad #[F N,F P,ag .i64 M] 45));clear h d c0;cases q
  ·by_cases B:20<=(n:Int)
   ·have g:Hid (se=12):=by rw[f.o];exact Aa (by have:20<=n:=O;simp[this])
    go_wp2;go_ret;exact⟨by rw[g.o];rfl,b.alloc b.4 _⟩
   ·have g:Hid (se=0):=by rw[f.o];exact Aa (by have:¬20<=n:=O;simp[this])
    go_wp2;go_ret;exact⟨by rw[g.o];rfl,b.alloc b.4 _⟩
  ·have g:Hid (se=0):=by rw[f.o];exact Aa oS
   go_wp2;go_ret;exact⟨by rw[g.o];rfl,b.alloc b.4 _⟩
end
end Go.Proofs.YtkabgmdjfiidhaaGreatDoor
