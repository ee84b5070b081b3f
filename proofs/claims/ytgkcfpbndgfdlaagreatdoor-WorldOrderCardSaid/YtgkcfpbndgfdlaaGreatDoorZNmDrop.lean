import Derived.Test.YtgkcfpbndgfdlaaGreatDoorZNmSet
import Derived.Test.YtgkcfpbndgfdlaaGreatDoorZNmMap
set_option linter.all false
set_option maxHeartbeats 0
set_option maxRecDepth 99999
open Option renaming some->F,none->Z
open Go.IntKind renaming i64->I
open List renaming length_append->J,getElem?_append_left->E,getElem?_eq_some_iff->Y,length_drop->C,length_cons->ab
open Go.World renaming frozen?->G,cell?->ae
open Go.Value renaming int->T,string->aa,pointer->ac
namespace Go.Proofs.YtgkcfpbndgfdlaaGreatDoor
open Go.RowKit
theorem QF(b o p:Nat)(a:p<20)(W:World):(Instr.sliceAt 80 (ac (F ⟨b,o,Z⟩)) (F (T I (p:Int))) Z Z).run Tryz.prog W=.ok (.slice (F ⟨b,o+p*3,Z⟩) (20-p) (20-p)) W:=by rw[run_sliceAt_array_l W 80 _ MG _ _ O (by rw[FF];omega),JL,FF];simp only[Result.andThen,slicedAt,Int.toNat_natCast,DO];rw[if_neg O]
theorem QG(b o p n:Nat)(d:p+1<=n)(c:n<=20)(W:World):(Instr.sliceAt 80 (ac (F ⟨b,o,Z⟩)) (F (T I (I.wrap ((p:Int)+1)))) (F (T I (n:Int))) Z).run Tryz.prog W=.ok (.slice (F (FH b o p)) (n-(p+1)) (20-(p+1))) W:=by
 have a:I.wrap ((p:Int)+1)=((p+1:Nat):Int):=by rw[IntKind.wrap_i64];omega
 rw[a,run_sliceAt_array_lh W 80 _ MG _ _ _ _ O O (by rw[FF];omega),JL,FF];simp only[Result.andThen,slicedAt,Int.toNat_natCast,FH,DO]
theorem RN(ns rest:List Nm)(p:Nat)(x:Nm)(d:p<ns.length):(splice (ns++rest) p (ns.drop (p+1))).set (ns.length-1) x=(ns.take p++ns.drop (p+1))++x::rest:=by
 unfold splice;have b:p+(ns.drop (p+1)).length=ns.length-1:=oO;rw[b,List.take_append_of_le_length O,<-List.append_assoc];rw[List.set_append_right _ _ oO,show ns.length-1-(ns.take p++ns.drop (p+1)).length=0 by simp;omega];congr 1;rw[List.drop_append_of_le_length O];have c:(ns.drop (ns.length-1)).length=1:=oO;match h:ns.drop (ns.length-1),c with
 |[a],_=>simp
theorem Ir(ns rest:List Nm)(p:Nat)(a:p<ns.length)(b:ns.length+rest.length=20):(splice (ns++rest) p (ns.drop (p+1))).length=20:=by rw[length_splice _ _ _ oO];simp;omega
theorem VU{w a:World}{b t o p n:Nat}{pre post:List Value}{ns rest:List Nm}{s:ByteArray}(j:w.grownBy a (F b))(g:p<ns.length)(k:ns.length+rest.length=20)(f:pre.length=o)(d:ns.length=n)(c:del ns s=ns.take p++ns.drop (p+1))(i:a.1[b]?=F (.cells (pre++(BD (splice (ns++rest) p (ns.drop (p+1)))++T I ((n:Int)-1)::post)).toArray t (0,0))):NB (((a.setCell ⟨b,o+(n-1)*3,Z⟩ (aa ⟨#[]⟩)).setCell ⟨b,o+(n-1)*3+1,Z⟩ (aa ⟨#[]⟩)).setCell ⟨b,o+(n-1)*3+2,Z⟩ (T I 0)) b t o pre post (del ns s) (zeroNm::rest)/\w.grownBy (((a.setCell ⟨b,o+(n-1)*3,Z⟩ (aa ⟨#[]⟩)).setCell ⟨b,o+(n-1)*3+1,Z⟩ (aa ⟨#[]⟩)).setCell ⟨b,o+(n-1)*3+2,Z⟩ (T I 0)) (F b):=by
 have l:=Ir ns rest p g k;have h:=Kz i f (show n-1<(splice (ns++rest) p (ns.drop (p+1))).length by omega) zeroNm;rw[<-d,RN ns rest p zeroNm g,d]at h;refine⟨⟨?_,?_,f⟩,Ji _ _ _ j⟩
 ·rw[c];have e:((ns.take p++ns.drop (p+1)).length:Int)=(n:Int)-1:=oO;rw[e];exact h
 ·rw[c];simp;omega
theorem Tj(b t o:Nat)(pre post:List Value)(ns rest:List Nm)(s:ByteArray)(w:World)(Q:NB w b t o pre post ns rest)(ho:Aw ns):Calls Tryz.prog 87 #[ac (F ⟨b,o,Z⟩),aa s] w λe w'=>e=.returned (LK (S8 ns s))/\(∃rest',NB w' b t o pre post (del ns s) rest')/\w.grownBy w' (F b):=by
 have W:=Q.lt;have N:=Q.2;have H:=Aa (Gg b t o pre post ns rest s w Q ho);go_enter Tryz.func87,Tryz.ntmps87;go_wp2_with(go_at_call 109;go_must(refine H.o.mono ?_);rintro e w3 ⟨⟨p,d,rfl⟩,z⟩;refine Hid.out ?_);refine Aa ?_;obtain⟨th,g⟩:∃q,Hid (CD ns s p=q):=⟨_,rfl⟩;rw[g.o];have a:=Aa (Q.below z W);have d:=Aa d;cases th
 ·have S:∀y,ns[p]?=F y->y.1≠s:=λy B e=>by have:=g.o;rw[BN B,Da e]at this;cases this
  have M:=Aa (LA d.o ho S);clear S;go_wp2;go_ret;refine⟨by simp[S8,M.o,LK],⟨rest,by rw[Tb M.o];exact a.o⟩,Bl b z⟩
 ·obtain⟨y,B⟩:∃y,ns[p]?=F y:=by
   cases hq:ns[p]? with
   |none=>have:=g.o;simp[CD,hq]at this
   |some y=>exact⟨y,rfl⟩
  have D:y.1=s:=Dv (by have:=g.o;rw[BN B]at this;simpa using this);have A:=(Y.1 B).1;have HE:Hid (S8 ns s=0):=Aa (by simp[S8,F5 d.o B D]);have HD:Hid (del ns s=ns.take p++ns.drop (p+1)):=Aa (QL d.o B D);obtain⟨n,u⟩:∃n,Hid (ns.length=n):=⟨_,rfl⟩;have eM:=a.o.many;rw[u.o]at eM;have a2:p<n:=by rw[<-u.o];exact A
  have R:n<=20:=by rw[<-u.o];omega
  clear B D Q H;have k1:=QF b o p O;have k2:=QG b o p n O R;have g1:Hid ((BD (ns.drop (p+1))).length=(n-(p+1))*3):=Lib.hid (by rw[AT,C,u.o]);have g2:Hid (0<n-(p+1)->∃ad,(F (FH b o p))=F ad/\∀j v,(BD (ns.drop (p+1)))[j]?=F v->w3.cell? (ad.add j)=F v):=Lib.hid λh0=>⟨⟨b,o+(p+1)*3,Z⟩,by unfold FH;rw[if_neg O],λj v hv=>by
    rw[DO];have hj:j<(BD (ns.drop (p+1))).length:=(Y.1 hv).1;rw[AT,C]at hj;have hc:(pre++(BD (ns++rest)++T I (ns.length:Int)::post))[o+(p+1)*3+j]?=F v:=by have h1:=a.o.3;rw[List.getElem?_append_right O,h1,show o+(p+1)*3+j-o=(p+1)*3+j by omega,E (by rw[AT,J];omega),Gq,E (by rw[AT];omega),<-hv,<-Jw,List.getElem?_drop]
    simp only[ae,a.o.1];simpa using hc⟩;have g3:Hid (o+p*3+(BD (ns.drop (p+1))).length<=(pre++(BD (ns++rest)++T I (ns.length:Int)::post)).length):=Lib.hid (by have h1:=a.o.3;have h2:=a.o.2;have h3:=u.o;simp only[J,AT,C,ab];omega);have g4:Hid (∀v∈BD (ns.drop (p+1)),v.oneCell'=true):=Lib.hid (IM _);go_wp2_with fail;go_region_law(refine EJ rfl (.tmp 20) (.tmp 30) 166 166 rfl 79 Tryz.underlying166 3 K (F ⟨b,o+p*3,Z⟩) (F (FH b o p)) (20-p) (20-p) (n-(p+1)) (20-(p+1)) (by simp[Act.eval,Act.put]) (by simp[Act.eval,Act.put]) b (o+p*3) (pre++(BD (ns++rest)++T I (ns.length:Int)::post)) t a.o.1 (n-(p+1)) (Nat.min_eq_left O) (BD (ns.drop (p+1))) g1.o (λh0=>⟨rfl,g2.o h0⟩) g3.o g4.o ?_;intro w4 f l);rw[JM pre _ (ns++rest) (ns.drop (p+1)) p o a.o.3 oO]at f;have k:=Ir ns rest p A N;have k4:=GL f.o a.o.3 k;rw[u.o]at k4;have f4:w4.frozen? ⟨b,o+60,Z⟩=false:=by simp[G,f.o]
  obtain⟨m,hm⟩:∃m:Nat,n=m+1:=⟨n-1,O⟩;have hv:=Ky f.o a.o.3 k (T I (m:Int));have r:=Aa hv;have P:w.grownBy (w4.setCell ⟨b,o+60,Z⟩ (T I (m:Int))) (F b):=Am _ (Ak (Bl b z) (CT l));have L:=Aa P;obtain⟨x,U⟩:∃x,w4.setCell ⟨b,o+60,Z⟩ (T I (m:Int))=x:=⟨_,rfl⟩;rw[U]at r L;have k5:=GL r.o a.o.3 k;have V:=AT (splice (ns++rest) p (ns.drop (p+1)));have a1:=a.o.3;have h:∀i,i<3->∃v,x.cell? ⟨b,o+m*3+i,Z⟩=F v:=λi hi=>by
   have:o+m*3+i<(pre++(BD (splice (ns++rest) p (ns.drop (p+1)))++T I (m:Int)::post)).length:=by simp only[J,ab];omega
   have e:=List.getElem?_eq_getElem this;exact⟨_,(by simp only[ae,r.o];rfl:x.cell? ⟨b,o+m*3+i,none⟩=(pre++(BD (splice (ns++rest) p (ns.drop (p+1)))++.int .i64 (m:Int)::post)).toArray[o+m*3+i]?).trans ((List.getElem?_toArray ..).trans e)⟩
  obtain⟨z0,q0⟩:=h 0 O;obtain⟨z1,q1⟩:=h 1 O;obtain⟨z2,q2⟩:=h 2 O;have y0:x.frozen? ⟨b,o+m*3,Z⟩=false:=by simp[G,r.o]
  have y1:x.frozen? ⟨b,o+m*3+1,Z⟩=false:=by simp[G,r.o]
  have y2:x.frozen? ⟨b,o+m*3+2,Z⟩=false:=by simp[G,r.o]
  subst hm;simp only[Nat.add_zero]at q0;have c:=Aa (VU (s:=s) L.o A N a.o.3 u.o HD.o (by rw[show(((m+1:Nat):Int)-1)=(m:Int)by omega];exact r.o));rw[Nat.add_sub_cancel]at c;clear f l k hv P h V;go_wp2_with fail;have a0:(m:Int)<20:=O;have X:m<20:=O;go_region_law(fail);all_goals
   go_wp2;go_ret;rw[HE.o];exact⟨rfl,⟨_,c.o.1.on rfl⟩,⟨c.o.2.1,c.o.2.2,c.o.2.3,c.o.2.4,c.o.2.5⟩⟩
end Go.Proofs.YtgkcfpbndgfdlaaGreatDoor
