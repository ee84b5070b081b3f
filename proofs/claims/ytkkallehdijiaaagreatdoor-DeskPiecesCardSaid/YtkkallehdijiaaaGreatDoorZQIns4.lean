import Derived.Test.YtkkallehdijiaaaGreatDoorZHpTk
import Derived.Lib.Overlaps
import Derived.Lib.AppendZerosOnto
set_option linter.all false
set_option maxHeartbeats 0
set_option maxRecDepth 99999
open Go.Value renaming slice->F,int->am
open Option renaming some->Z,none->I
open Go.Proofs.Tryz renaming prog->J,underlying133->G,ntmps231->ao,func231->av
open List renaming append_assoc->E,getElem?_eq_some_iff->ac,length_append->ad,length_drop->ag,length_take->ah,take_left'->ai,drop_eq_nil_of_le->an,getElem?_drop->au,take_take->aA
open Go.Instr renaming slice->Y
open Go renaming splice->T,length_splice->af,World->al,Value->ap,maxLen->aq,TypeId->aD,Calls->aF
open Go.Builtin renaming zeroCells->aa,firstCells->ar
open Go.IntKind renaming i64->ab,wrap_i64->ax
open Go.Obj renaming cells->ae
open Nat renaming min_eq_left->aj,zero_add->aw,le_refl->ay,min->az,le_of_lt->aB,le_trans->aC,add_mul->aE
open Array renaming getElem?_eq_some_iff->ak
namespace Go.Proofs.YtkkallehdijiaaaGreatDoor
section
open Go.RowKit
theorem PH{cur D X:List ap}{a b:Nat}(d:X.length=b)(e:a+b+D.length<=cur.length):T (T cur (a+b) D) a X=cur.take a++(X++(D++cur.drop (a+b+D.length))):=by
 unfold T;have c:(cur.take (a+b)).length=a+b:=by rw[ah];omega
 rw[d,List.take_append_of_le_length O,aA,aj O,List.drop_append,an O,c,Nat.sub_self,List.drop_zero,List.nil_append]
theorem Vl{cur:List ap}{S:List Pl}{x:Pl}{i n a:Nat}(c:S.length=n)(e:i<=n)(f:cur.length=a*7)(g:n+1<=a)(d:cur.take (n*7)=encs pc S):(T (T cur (i*7+7) (encs pc (S.drop i))) (i*7) (pc x)).take ((n+1)*7)=encs pc (S.take i++x::S.drop i):=by
 have hD:(encs pc (S.drop i)).length=(n-i)*7:=by rw[CP AY,ag,c]
 rw[PH (AY x) (by rw[hD];omega)];have e1:cur.take (i*7)=encs pc (S.take i):=by rw[<-FC AY,<-d,aA,aj O]
 have b:(encs pc (S.take i)).length=i*7:=by rw[CP AY,ah];omega
 rw[e1,Gw,BO,<-E,<-E,<-E,ai (by simp only[ad,b,hD,AY];omega),E]
theorem LM{P:Program}(w:al)(l n p c:aD)(g o b e:Nat)(a:Addr)(d f size:Nat)(cur:List ap)(t:aD)(cs:List ap)(k:Nat)(s:P.underlying l=Z (.slice c))(hs:(P.info? c).map (·.3)=Z size)(m:w.1[g]?=Z (ae cur.toArray t (0,0)))(hk:az d b=k)(r:cs.length=k*size)(i:∀j v,cs[j]?=Z v->w.cell? (a.add j)=Z v)(h:o+cs.length<=cur.length)(q:∀v∈cs,v.oneCell'=true):∃w',(Builtin.copy_ #[l,n] p #[F (Z ⟨g,o,I⟩) b e,F (Z a) d f]).run P w=.ok (goInt k) w'/\w'.1[g]?=Z (ae (T cur o cs).toArray t (0,0))/\w.grownBy w' (Z g):=by subst hk;exact⟨_,LN w l n p c g o b e a d f size cur.toArray t cs s hs m r i (by simpa using h) q,by simpa[T]using setRow_heap w g _ _ t _ m,EX w g _⟩
theorem YP(w:al):(sizeOf 208).run J w=.ok 7 w:=K
theorem YB{w:al}{g V o:Nat}{x:Pl}{cur:List ap}(f:w.1[g]?=Z (ae cur.toArray 208 (0,0)))(d:cur.length≠0)(a:w.1[V]?=Z (ae (pc x).toArray 208 (0,0)))(b:V≠g)(lb c:Nat):(callFunc 267 #[F (Z ⟨V,0,I⟩) 1 1,F (Z ⟨g,o,I⟩) lb c]).run J w=.ok (.value (.bool false)) w:=by rw[run_callFunc_extern Tryz.func267 K K K (e:=Extern.SlicesOverlaps.overlaps #[133,133] #[4]) K,Lib.run_overlaps_apart w 133 4 208 G 7 YP ⟨V,0,I⟩ ⟨g,o,I⟩ 1 1 lb c b 208 208 7 cur.length (by simp[World.shape?,a,AY]) (by simp[World.shape?,f]) d (by simp[World.frozen?,a]) (by simp[World.frozen?,a])];rfl
theorem MO(g n a base V:Nat)(S:List Pl)(x:Pl)(i:Nat)(w:al)(hn:S.length=n)(hl:n<=3000)(hi:i<n)(c:n+1<=a)(b:w.ownsRow base 208 7 (F (Z ⟨g,0,I⟩) n a) n (encs pc S))(H:w.1[V]?=Z (ae (pc x).toArray 208 (0,0)))(B:V≠g):aF J 231 #[F (Z ⟨g,0,I⟩) n a,am ab (i:Int),F (Z ⟨V,0,I⟩) 1 1] w λe w'=>e=.returned (F (Z ⟨g,0,I⟩) (n+1) a)/\w'.ownsRow base 208 7 (F (Z ⟨g,0,I⟩) (n+1) a) (n+1) (encs pc (S.take i++x::S.drop i))/\w.grownBy w' (Z g):=by
 obtain⟨cur,hg,f,z,a6,t,s⟩:=Bz b;have y:=Aa t;unfold aq at t;have k0:∀W,(Y 133 (F (Z ⟨g,0,I⟩) n a) (Z (am ab (i:Int))) I I).run J W=.ok (F (Z ⟨g,i*7,I⟩) (n-i) (a-i)) W:=λW=>by have:=CZ 133 BL 7 Ct g n a i _ rfl O W;rwa[Cp O]at this
 have k1:∀W,(Y 133 (F (Z ⟨g,0,I⟩) n a) I (Z (am ab ((n:Int)+1))) I).run J W=.ok (F (Z ⟨g,0,I⟩) (n+1) a) W:=EK 133 BL 7 Ct g n a (n+1) _ O O;have k2:∀W,(Y 133 (F (Z ⟨g,0,I⟩) (n+1) a) (Z (am ab ((i:Int)+1))) I I).run J W=.ok (F (Z ⟨g,i*7+7,I⟩) (n-i) (a-(i+1))) W:=λW=>by have:=CZ 133 BL 7 Ct g (n+1) a (i+1) ((i:Int)+1) O O W;rwa[Cp O,show(i+1)*7=i*7+7 by omega,show n+1-(i+1)=n-i by omega]at this
 obtain⟨q,hq⟩:∃q,n+1-i=q:=⟨_,rfl⟩;have a3:1<=q:=O;have a4:n-i<=q:=O;have k3:∀W,(Y 133 (F (Z ⟨g,0,I⟩) (n+1) a) (Z (am ab (i:Int))) I I).run J W=.ok (F (Z ⟨g,i*7,I⟩) q (a-i)) W:=λW=>by have:=CZ 133 BL 7 Ct g (n+1) a i _ rfl O W;rwa[Cp O,hq]at this
 have a2:∀lb U,(callFunc 267 #[F (Z ⟨V,0,I⟩) 1 1,F (Z ⟨g,i*7+7,I⟩) lb U]).run J w=.ok (.value (.bool false)) w:=λlb U=>YB hg O H B lb U;have e1:((i:Int)==(n:Int))=false:=by rw[beq_eq_false_iff_ne];omega
 have H1:Hid (az q (n-i)=n-i):=Aa (Nat.min_eq_right a4);have m:Hid ((encs pc (S.drop i)).length=(n-i)*7):=Aa (by rw[CP AY,ag,hn]);have H3:Hid (∀j v,(encs pc (S.drop i))[j]?=Z v->w.drew.cell? ((⟨g,i*7,I⟩:Addr).add j)=Z v):=Aa λj u h=>by have a1:=(ac.1 h).1;rw[m.o]at a1;show w.cell? _=_;rw[AM,b.cellAt (i*7+j) O,<-h,<-H9 AY,au]
 have H4:Hid (i*7+7+(encs pc (S.drop i)).length<=cur.length):=Aa (by rw[m.o,f];omega);have H5:Hid (∀v∈encs pc (S.drop i),v.oneCell'=true):=Aa (JJ Il _);have HG:=Aa (show w.drew.1[g]?=Z (ae cur.toArray 208 (0,0))from hg);have HV:=Aa H;have HT:=Aa (Vl (x:=x) hn (aB hi) f c z);have d:=Aa f;have X:V<w.1.size:=(ak.1 H).1;have L:=Aa s;have D:(J.info? 208).map (·.3)=Z 7:=K;have r:=Aa D;have a7:ab.wrap ((i:Int)+1)=(i:Int)+1:=by rw[ax];omega
 clear b hn hg z f H s D hq;go_enter av,ao;go_wp2_with(simp only[a2]);go_region_law(refine EZ rfl (.tmp 73) (.tmp 76) 133 133 rfl 208 G 7 r.o (Z ⟨g,i*7+7,I⟩) (Z ⟨g,i*7,I⟩) (n-i) (a-(i+1)) q (a-i) (by simp[Act.eval,Act.put]) (by simp[Act.eval,Act.put]) g (i*7+7) cur 208 HG.o (n-i) H1.o (encs pc (S.drop i)) m.o (λ_=>⟨rfl,_,rfl,H3.o⟩) H4.o H5.o ?_;intro w4 a0 k);all_goals
  have p:=Aa (Dh k);have Q:Hid (∀j v,(pc x)[j]?=Z v->w4.cell? ((⟨V,0,I⟩:Addr).add j)=Z v):=Aa λj u h=>by rw[AM,aw];have:=(p.o.5 V X (λe=>B (Option.some.inj e))).trans HV.o;simp only[World.cell?,this];simpa using h
  have R:Hid (∀v∈pc x,v.oneCell'=true):=Aa (Il x);have H6:Hid (az 1 q=1):=Aa (aj a3);have H7:Hid (i*7+(pc x).length<=(T cur (i*7+7) (encs pc (S.drop i))).length):=Aa (by rw[AY,af _ _ _ (by rw[m.o,d.o];omega),d.o];omega);clear k;obtain⟨w5,a5,A,l⟩:=LM (P:=J) w4 133 133 3 208 g (i*7) q (a-i) ⟨V,0,I⟩ 1 1 7 (T cur (i*7+7) (encs pc (S.drop i))) 208 (pc x) 1 G r.o a0.o H6.o rfl Q.o H7.o R.o;have N:Hid (w5.ownsRow base 208 7 (F (Z ⟨g,0,I⟩) (n+1) a) (n+1) (encs pc (S.take i++x::S.drop i))):=Aa (Gd A (by rw[af _ _ _ H7.o,af _ _ _ (by rw[m.o,d.o];omega)];exact d.o) HT.o c y.o L.o);have M:=Aa (Af p.o l);clear l A;go_wp2;go_ret;exact⟨rfl,N.o,M.o⟩
theorem Ri{w:al}{V:Nat}{x:Pl}(b:w.1[V]?=Z (ae (pc x).toArray 208 (0,0))):∀j v,(pc x)[j]?=Z v->w.cell? ((⟨V,0,I⟩:Addr).add j)=Z v:=by intro j u a;rw[AM,aw];simp only[World.cell?,b];simpa using a
theorem PJ(a:Option Addr)(n b base V:Nat)(S:List Pl)(x:Pl)(w:al)(L:S.length=n)(hl:n<=3000)(c:w.ownsRow base 208 7 (F a n b) n (encs pc S))(f:base<=w.1.size)(H:w.1[V]?=Z (ae (pc x).toArray 208 (0,0))):aF J 231 #[F a n b,am ab (n:Int),F (Z ⟨V,0,I⟩) 1 1] w λe w'=>∃v',e=.returned v'/\w'.ownsRow base 208 7 v' (n+1) (encs pc (S++[x]))/\w.grownBy w' (F a n b).ownBlock/\From w (F a n b) v':=by
 obtain⟨U,hj,j,k,l⟩:=Aw MN;have M:=Aa hj;have q:=Aa j;have s:=Aa k;have t:=Aa l;have N:=Aa c;have u:=Aa (Ri H);have z:Hid (∀v∈pc x,v.oneCell'=true):=Aa (Il x);have e1:((n:Int)==(n:Int))=true:=oS;obtain⟨r0,k0⟩:∃r,∀W,(Y 133 (F a n b) (Z (am ab (n:Int))) I I).run J W=.ok r W:=by
  rcases c.2 with⟨A,h1⟩|⟨g,D,cur,A,hb,hg,R,P,Q,B⟩
  ·cases A;exact⟨_,λW=>by rw[run_slice_l W 133 _ _ _ BL _ _ O O,Ct];rfl⟩
  ·cases A;exact⟨_,CZ 133 BL 7 Ct g n b n _ rfl (ay _)⟩
 have X:=Aa L;clear hj j k l c H L;go_enter av,ao;go_wp2_with(at_builtin;go_must(refine B4 rfl _ _ 133 rfl base 208 U _ 7 72 G M.o q.o s.o t.o rfl oD (F a n b) _ _ rfl N.o ⟨V,0,I⟩ 1 1 oD (pc x) rfl rfl u.o z.o (by unfold aq;omega) O f ?_));intro v5 w5 d i h;have y:=Aa d;have p:=Aa i;have m:=Aa h;clear d i h;go_wp2;go_ret;refine⟨v5,rfl,?_,p.o,m.o⟩;rw[Gw];simpa[encs]using y.o
theorem Si{cur:List ap}{S:List Pl}{x:Pl}{i n a:Nat}(d:S.length=n)(f:i<=n)(_hl:cur.length=a*7)(_hr:n+1<=a)(e:cur.take (i*7)=encs pc (S.take i)):(T (T cur (i*7) (pc x)) (i*7+7) (encs pc (S.drop i))).take ((n+1)*7)=encs pc (S.take i++x::S.drop i):=by
 have hD:(encs pc (S.drop i)).length=(n-i)*7:=by rw[CP AY,ag,d]
 have c:(encs pc (S.take i)).length=i*7:=by rw[CP AY,ah];omega
 have b:(T cur (i*7) (pc x)).take (i*7+7)=encs pc (S.take i)++pc x:=by unfold T;rw[e,<-E,ai (by simp only[ad,c,AY])]
 unfold T at b⊢;rw[b,<-E,ai (by simp only[ad,c,hD,AY];omega),Gw,BO,E]
theorem Ne{P:Program}{w:al}{p:Array Oper}{rest:List Oper}{o:Oper}{a:Act}{Q:Exit->Act->al->Prop}(u:o.6=I)(s x:Operand)(t tn:aD)(X:o.2=.call {callee:=.builtin .append,args:=#[s,x],argTypes:=#[t,tn]})(e:aD)(i:TypeInfo)(z:ap)(size d:Nat)(ht:P.underlying t=Z (.slice e))(A:P.underlying tn=Z (.int ab))(W:P.info? e=Z i)(hz:i.8=Z z)(l:i.3=size)(r:i.4=d)(B:z.cells.size=size)(y:0<size)(g n c k:Nat)(q:Int)(hs:a.eval s=F (Z ⟨g,0,I⟩) n c)(hx:a.eval x=am ab q)(hq:q=(k:Int))(b:List ap)(f:b.length=n*size)(hold:∀j v,b[j]?=Z v->w.cell? ((⟨g,0,I⟩:Addr).add j)=Z v)(M:0<k)(L:c<n+k)(m:n+k<=aq)(U:(n+k)*d<=140737488355328)(N:Nat)(S:n+k=N)(h:∀(C:Nat) (cur:List ap) (w':al),Hid (w'.1[w.1.size]?=Z (ae cur.toArray e (0,0))/\cur.length=C*size/\cur.take (n*size)=b/\C<=aq/\Below w.1.size w w')->N<=C->wpList P p Q rest (a.put o.1 (F (Z ⟨w.1.size,0,I⟩) N C)) w'):wpList P p Q (o::rest) a w:=by
 refine wpList_plain u λK R=>?_;subst hq;subst l;subst r;subst S;have V:(ar i.3 n (F (Z ⟨g,0,I⟩) n c)).run P w.drew=.ok b.toArray w.drew:=by simp only[ar];rw[<-f];exact run_loadCells_list w.drew _ b (λj v hj=>hold j v hj)
 have hr:=Lib.run_append_grow_zeros (P:=P) w t tn o.3 e i z ab ab ht A W hz (Z ⟨g,0,I⟩) n c b V k M y L (by unfold aq at m;omega) (by have:k*i.4<=(n+k)*i.4:=Nat.mul_le_mul_right _ O;omega) (growslice_fits L U);have D:=grownCap_ge w (n+k) c e;have H:=grownCap_le_maxLen w (n+k) c e m;unfold Oper.wp execOp;simp only[X,resolve,invoke,builtin,Sem.run_bind,Sem.run_pure,Result.andThen_ok,List.map_toArray,List.map_cons,List.map_nil,hs,hx,hr];generalize grownCap w (n+k) c e=C at D H⊢;refine R _ _ (h C (b++((aa z.cells k).1++(aa z.cells (C-(n+k))).1)) _ (Aa ⟨?_,?_,?_,H,?_⟩) D)
 ·have:=heap_alloc_new w.drew (ae (b.toArray++aa z.cells k++aa z.cells (C-(n+k))) e);rw[show w.drew.1.size=w.1.size from rfl]at this;rw[this];congr 2;simp
 ·have e1:∀k,(aa z.cells k).1.length=k*i.3:=λk=>by have:=F6 z.cells.1 k;simpa[B]using this
  simp only[ad,f,e1];rw[<-aE,<-aE];congr 1;omega
 ·rw[<-f,ai];rfl
 ·exact(Below.refl _ _).drew.alloc (ay _) _
theorem NX(g n b base V:Nat)(S:List Pl)(x:Pl)(i:Nat)(w:al)(hn:S.length=n)(hl:n<=3000)(hi:i<n)(d1:¬n+1<=b)(m:w.ownsRow base 208 7 (F (Z ⟨g,0,I⟩) n b) n (encs pc S))(y:base<=w.1.size)(hV:w.1[V]?=Z (ae (pc x).toArray 208 (0,0))):aF J 231 #[F (Z ⟨g,0,I⟩) n b,am ab (i:Int),F (Z ⟨V,0,I⟩) 1 1] w λe w'=>∃v',e=.returned v'/\w'.ownsRow base 208 7 v' (n+1) (encs pc (S.take i++x::S.drop i))/\w.grownBy w' (Z g)/\From w (F (Z ⟨g,0,I⟩) n b) v':=by
 obtain⟨cur,hg,c6,c8,d3,c7,c5⟩:=Bz m;unfold aq at c7;obtain⟨j0,hj,a1,a2,a3⟩:=Aw MN;have HJ:=Aa hj;have b3:=Aa a1;have b4:=Aa a2;have b5:=Aa a3;have k0:∀W,(Y 133 (F (Z ⟨g,0,I⟩) n b) (Z (am ab (i:Int))) I I).run J W=.ok (F (Z ⟨g,i*7,I⟩) (n-i) (b-i)) W:=λW=>by have:=CZ 133 BL 7 Ct g n b i _ rfl O W;rwa[Cp O]at this
 have k1:∀W,(Y 133 (F (Z ⟨g,0,I⟩) n b) I (Z (am ab (i:Int))) I).run J W=.ok (F (Z ⟨g,0,I⟩) i b) W:=EK 133 BL 7 Ct g n b i _ rfl O;have e1:((i:Int)==(n:Int))=false:=by rw[beq_eq_false_iff_ne];omega
 have H2:Hid ((encs pc (S.drop i)).length=(n-i)*7):=Aa (by rw[CP AY,ag,hn]);have H5:Hid (∀v∈encs pc (S.drop i),v.oneCell'=true):=Aa (JJ Il _);have c9:g<w.1.size:=(m.lt g rfl).2;have HS:Hid (∀(W:al),W.1[g]?=w.1[g]?->∀j v,(encs pc (S.drop i))[j]?=Z v->W.cell? ((⟨g,i*7,I⟩:Addr).add j)=Z v):=Aa λW hW j u p=>by have r:=(ac.1 p).1;rw[H2.o]at r;rw[AM,World.cell?_of_block (a:=⟨g,i*7+j,I⟩) hW,m.cellAt (i*7+j) O,<-p,<-H9 AY,au]
 have H:Hid ((encs pc (S.take i)).length=i*7):=Aa (by rw[CP AY,ah];omega);have L:Hid (∀j v,(encs pc (S.take i))[j]?=Z v->w.cell? ((⟨g,0,I⟩:Addr).add j)=Z v):=Aa λj u p=>by have r:=(ac.1 p).1;rw[H.o]at r;rw[AM,aw,m.cellAt j O,<-p,<-FC AY,List.getElem?_take,if_pos r]
 have HV:=Aa hV;have c4:V<w.1.size:=(ak.1 hV).1;have a5:(J.info? 208).map (·.3)=Z 7:=K;have N:=Aa a5;have d4:ab.wrap ((i:Int)+1)=(i:Int)+1:=by rw[ax];omega
 have c0:Hid (∀v∈pc x,v.oneCell'=true):=Aa (Il x);have Hn:=Aa hn;have a0:i+(n+1-i)=n+1:=O;have a7:J.underlying 3=Z (.int ab):=K;have c2:=Aa a7;have c1:=Aa a0;clear m hn hg c8 c6 hV c5 a5 hj a1 a2 a3 a7 a0;go_enter av,ao;go_wp2_with(at_builtin;go_must(refine Ne rfl _ _ 133 3 rfl 208 j0 _ 7 72 G c2.o HJ.o b3.o b4.o b5.o rfl oD g i b (n+1-i) ((n:Int)+1-(i:Int)) rfl rfl O (encs pc (S.take i)) H.o L.o O O (by unfold aq;omega) O (n+1) c1.o ?_));intro C l w1 H1 hC;obtain⟨z,a4,a6,R,Q⟩:=H1.o;have c3:=z;have b1:=Aa z;have t:=Aa a4;have b8:=Aa a6;have b6:=Aa R;have h:=Aa Q;obtain⟨q,hq⟩:∃q,n+1-i=q:=⟨_,rfl⟩;have d0:1<=q:=O;have k3:∀W,(Y 133 (F (Z ⟨w.1.size,0,I⟩) (n+1) C) (Z (am ab (i:Int))) I I).run J W=.ok (F (Z ⟨w.1.size,i*7,I⟩) q (C-i)) W:=λW=>by have:=CZ 133 BL 7 Ct w.1.size (n+1) C i _ rfl O W;rwa[Cp O,hq]at this
 have k2:∀W,(Y 133 (F (Z ⟨w.1.size,0,I⟩) (n+1) C) (Z (am ab ((i:Int)+1))) I I).run J W=.ok (F (Z ⟨w.1.size,i*7+7,I⟩) (n-i) (C-(i+1))) W:=λW=>by have:=CZ 133 BL 7 Ct w.1.size (n+1) C (i+1) ((i:Int)+1) O O W;rwa[Cp O,show(i+1)*7=i*7+7 by omega,show n+1-(i+1)=n-i by omega]at this
 have b9:=Aa (Ri (V:=V) ((h.o.5 V c4).trans HV.o));have H6:Hid (az 1 q=1):=Aa (aj d0);have H7:Hid (i*7+(pc x).length<=l.length):=Aa (by rw[AY,t.o];omega);obtain⟨w2,d2,U,s⟩:=LM (P:=J) w1 133 133 3 208 w.1.size (i*7) q (C-i) ⟨V,0,I⟩ 1 1 7 l 208 (pc x) 1 G N.o b1.o H6.o rfl b9.o H7.o c0.o;have a9:=Aa U;have d:=Aa s;have D:Hid ((T l (i*7) (pc x)).length=C*7):=Aa (by rw[af _ _ _ H7.o];exact t.o);have a8:Hid (az (n-i) (n-i)=n-i):=Aa (Nat.min_self _);have H4:Hid (i*7+7+(encs pc (S.drop i)).length<=(T l (i*7) (pc x)).length):=Aa (by rw[H2.o,D.o];omega);have b2:∀k,k<w.1.size->w2.1[k]?=w.1[k]?:=λk hk=>(d.o.5 k (by have:=h.o.4;omega) (λe=>by cases e;omega)).trans (h.o.5 k hk);have A:=Aa b2;have M:=Aa (HS.o w2.drew (A.o g c9));have B:=Aa (show w2.drew.1[w.1.size]?=_ from a9.o);clear z a4 a6 R Q H1 c3 U s hq b2;go_wp2;go_region_law(refine EZ rfl (.tmp 50) (.tmp 53) 133 133 rfl 208 G 7 N.o (Z ⟨w.1.size,i*7+7,I⟩) (Z ⟨g,i*7,I⟩) (n-i) (C-(i+1)) (n-i) (b-i) (by simp[Act.eval,Act.put]) (by simp[Act.eval,Act.put]) w.1.size (i*7+7) (T l (i*7) (pc x)) 208 B.o (n-i) a8.o (encs pc (S.drop i)) H2.o (λ_=>⟨rfl,_,rfl,M.o⟩) H4.o H5.o ?_;intro w4 X f);all_goals
  have b7:Hid (w4.ownsRow base 208 7 (F (Z ⟨w.1.size,0,I⟩) (n+1) C) (n+1) (encs pc (S.take i++x::S.drop i))):=Aa (Gd X.o (by rw[af _ _ _ H4.o];exact D.o) (Si Hn.o (aB hi) t.o hC b8.o) hC b6.o y);have b0:Hid (w.grownBy w4 (Z g)):=Aa ⟨f.1.trans (d.o.1.trans h.o.1),f.2.trans (d.o.2.trans h.o.2),f.3.trans (d.o.3.trans h.o.3),aC h.o.4 (aC d.o.4 f.4),λk hk _=>(f.5 k (by have:=h.o.4;have:=d.o.4;show k<w2.1.size;omega) (λe=>by cases e;omega)).trans (A.o k hk)⟩;clear f X;go_wp2;go_ret;exact⟨_,rfl,b7.o,b0.o,λc hc=>by cases hc;exact .inr (ay _)⟩
theorem PI(a:Option Addr)(n b base V:Nat)(S:List Pl)(x:Pl)(i:Nat)(w:al)(k:S.length=n)(j:n<=3000)(s:i<=n)(c:w.ownsRow base 208 7 (F a n b) n (encs pc S))(d:base<=w.1.size)(f:w.1[V]?=Z (ae (pc x).toArray 208 (0,0)))(l:(F a n b).ownBlock≠Z V):aF J 231 #[F a n b,am ab (i:Int),F (Z ⟨V,0,I⟩) 1 1] w λe w'=>∃v',e=.returned v'/\w'.ownsRow base 208 7 v' (n+1) (encs pc (S.take i++x::S.drop i))/\w.grownBy w' (F a n b).ownBlock/\From w (F a n b) v':=by
 rcases Nat.lt_or_eq_of_le s with h|h
 ·rcases c.2 with⟨o,p⟩|⟨g,m,cur,o,-⟩
  ·omega
  ·cases o;by_cases q:n+1<=b
   ·refine(MO g n b base V S x i w k j h q c f (λe=>l (by rw[e];rfl))).mono ?_;rintro e w' ⟨rfl,p,r⟩;exact⟨_,rfl,p,r,From.same rfl⟩
   ·exact NX g n b base V S x i w k j h q c d f
 ·subst h;have:=PJ a i b base V S x w k j c d f;rw[List.take_of_length_le O,an O];exact this
end
end Go.Proofs.YtkkallehdijiaaaGreatDoor
