import Derived.Test.YtkkallehdijiaaaGreatDoorZNmMap
set_option linter.all false
set_option maxHeartbeats 0
set_option maxRecDepth 99999
open Option renaming some->F,none->Z
open Go.IntKind renaming i64->I
open List renaming length_append->J,getElem?_append_left->E,getElem?_eq_some_iff->Y,length_drop->C,length_cons->ab
open Go.World renaming frozen?->G,cell?->ae
open Go.Value renaming int->T,string->aa,pointer->ac
namespace Go.Proofs.YtkkallehdijiaaaGreatDoor
open Go.RowKit
theorem R3(b o p:Nat)(a:p<20)(W:World):(Instr.sliceAt 126 (ac (F ⟨b,o,Z⟩)) (F (T I (p:Int))) Z Z).run Tryz.prog W=.ok (.slice (F ⟨b,o+p*3,Z⟩) (20-p) (20-p)) W:=by rw[run_sliceAt_array_l W 126 _ Nl _ _ O (by rw[FZ];omega),Kl,FZ];simp only[Result.andThen,slicedAt,Int.toNat_natCast,D4];rw[if_neg O]
theorem R5(b o p n:Nat)(d:p+1<=n)(c:n<=20)(W:World):(Instr.sliceAt 126 (ac (F ⟨b,o,Z⟩)) (F (T I (I.wrap ((p:Int)+1)))) (F (T I (n:Int))) Z).run Tryz.prog W=.ok (.slice (F (F0 b o p)) (n-(p+1)) (20-(p+1))) W:=by
 have a:I.wrap ((p:Int)+1)=((p+1:Nat):Int):=by rw[IntKind.wrap_i64];omega
 rw[a,run_sliceAt_array_lh W 126 _ Nl _ _ _ _ O O (by rw[FZ];omega),Kl,FZ];simp only[Result.andThen,slicedAt,Int.toNat_natCast,F0,D4]
theorem Te(ns rest:List Nm)(p:Nat)(x:Nm)(b:p<ns.length):(splice (ns++rest) p (ns.drop (p+1))).set (ns.length-1) x=(ns.take p++ns.drop (p+1))++x::rest:=by
 unfold splice;have e1:p+(ns.drop (p+1)).length=ns.length-1:=oO;rw[e1,List.take_append_of_le_length O,<-List.append_assoc];rw[List.set_append_right _ _ oO,show ns.length-1-(ns.take p++ns.drop (p+1)).length=0 by simp;omega];congr 1;rw[List.drop_append_of_le_length O];have e2:(ns.drop (ns.length-1)).length=1:=oO;match h:ns.drop (ns.length-1),e2 with
 |[a],_=>simp
theorem IW(ns rest:List Nm)(p:Nat)(a:p<ns.length)(b:ns.length+rest.length=20):(splice (ns++rest) p (ns.drop (p+1))).length=20:=by rw[length_splice _ _ _ oO];simp;omega
theorem XR{w a:World}{b t o p n:Nat}{pre post:List Value}{ns rest:List Nm}{s:ByteArray}(j:w.grownBy a (F b))(g:p<ns.length)(k:ns.length+rest.length=20)(f:pre.length=o)(d:ns.length=n)(c:del ns s=ns.take p++ns.drop (p+1))(i:a.1[b]?=F (.cells (pre++(BJ (splice (ns++rest) p (ns.drop (p+1)))++T I ((n:Int)-1)::post)).toArray t (0,0))):NB (((a.setCell ⟨b,o+(n-1)*3,Z⟩ (aa ⟨#[]⟩)).setCell ⟨b,o+(n-1)*3+1,Z⟩ (aa ⟨#[]⟩)).setCell ⟨b,o+(n-1)*3+2,Z⟩ (T I 0)) b t o pre post (del ns s) (zeroNm::rest)/\w.grownBy (((a.setCell ⟨b,o+(n-1)*3,Z⟩ (aa ⟨#[]⟩)).setCell ⟨b,o+(n-1)*3+1,Z⟩ (aa ⟨#[]⟩)).setCell ⟨b,o+(n-1)*3+2,Z⟩ (T I 0)) (F b):=by
 have l:=IW ns rest p g k;have h:=Ll i f (show n-1<(splice (ns++rest) p (ns.drop (p+1))).length by omega) zeroNm;rw[<-d,Te ns rest p zeroNm g,d]at h;refine⟨⟨?_,?_,f⟩,JO _ _ _ j⟩
 ·rw[c];have e:((ns.take p++ns.drop (p+1)).length:Int)=(n:Int)-1:=oO;rw[e];exact h
 ·rw[c];simp;omega
theorem NH(b t o:Nat)(pre post:List Value)(ns rest:List Nm)(s:ByteArray)(w:World)(P:NB w b t o pre post ns rest)(ho:As ns):Calls Tryz.prog 97 #[ac (F ⟨b,o,Z⟩),aa s] w λe w'=>e=.returned (BH (Dt ns s))/\(∃rest',NB w' b t o pre post (del ns s) rest')/\w.grownBy w' (F b):=by
 have V:=P.lt;have M:=P.2;have D:=Aa (Gy b t o pre post ns rest s w P ho);go_enter Tryz.func97,Tryz.ntmps97;go_wp2_with(go_at_call 159;go_must(refine D.o.mono ?_);rintro e w3 ⟨⟨p,hAt,rfl⟩,x⟩;refine Hid.out ?_);refine Aa ?_;obtain⟨th,f⟩:∃q,Hid (CX ns s p=q):=⟨_,rfl⟩;rw[f.o];have a:=Aa (P.below x V);have hAt:=Aa hAt;cases th
 ·have R:∀y,ns[p]?=F y->y.1≠s:=λy A e=>by have:=f.o;rw[BZ A,CJ e]at this;cases this
  have L:=Aa (Ms hAt.o ho R);clear R;go_wp2;go_ret;refine⟨by simp[Dt,L.o,BH],⟨rest,by rw[UG L.o];exact a.o⟩,Bm b x⟩
 ·obtain⟨y,A⟩:∃y,ns[p]?=F y:=by
   cases hq:ns[p]? with
   |none=>have:=f.o;simp[CX,hq]at this
   |some y=>exact⟨y,rfl⟩
  have B:y.1=s:=DH (by have:=f.o;rw[BZ A]at this;simpa using this);have z:=(Y.1 A).1;have HE:Hid (Dt ns s=0):=Aa (by simp[Dt,Gn hAt.o A B]);have HD:Hid (del ns s=ns.take p++ns.drop (p+1)):=Aa (R6 hAt.o A B);obtain⟨n,r⟩:∃n,Hid (ns.length=n):=⟨_,rfl⟩;have eM:=a.o.many;rw[r.o]at eM;have a2:p<n:=by rw[<-r.o];exact z
  have Q:n<=20:=by rw[<-r.o];omega
  clear A B P D;have k1:=R3 b o p O;have k2:=R5 b o p n O Q;have g1:Hid ((BJ (ns.drop (p+1))).length=(n-(p+1))*3):=Lib.hid (by rw[AR,C,r.o]);have g2:Hid (0<n-(p+1)->∃ad,(F (F0 b o p))=F ad/\∀j v,(BJ (ns.drop (p+1)))[j]?=F v->w3.cell? (ad.add j)=F v):=Lib.hid λh0=>⟨⟨b,o+(p+1)*3,Z⟩,by unfold F0;rw[if_neg O],λj v hv=>by
    rw[D4];have hj:j<(BJ (ns.drop (p+1))).length:=(Y.1 hv).1;rw[AR,C]at hj;have hc:(pre++(BJ (ns++rest)++T I (ns.length:Int)::post))[o+(p+1)*3+j]?=F v:=by have h1:=a.o.3;rw[List.getElem?_append_right O,h1,show o+(p+1)*3+j-o=(p+1)*3+j by omega,E (by rw[AR,J];omega),GE,E (by rw[AR];omega),<-hv,<-J6,List.getElem?_drop]
    simp only[ae,a.o.1];simpa using hc⟩;have g3:Hid (o+p*3+(BJ (ns.drop (p+1))).length<=(pre++(BJ (ns++rest)++T I (ns.length:Int)::post)).length):=Lib.hid (by have h1:=a.o.3;have h2:=a.o.2;have h3:=r.o;simp only[J,AR,C,ab];omega);have g4:Hid (∀v∈BJ (ns.drop (p+1)),v.oneCell'=true):=Lib.hid (Jg _);go_wp2_with fail;go_region_law(refine EZ rfl (.tmp 20) (.tmp 30) 100 100 rfl 88 Tryz.underlying100 3 K (F ⟨b,o+p*3,Z⟩) (F (F0 b o p)) (20-p) (20-p) (n-(p+1)) (20-(p+1)) (by simp[Act.eval,Act.put]) (by simp[Act.eval,Act.put]) b (o+p*3) (pre++(BJ (ns++rest)++T I (ns.length:Int)::post)) t a.o.1 (n-(p+1)) (Nat.min_eq_left O) (BJ (ns.drop (p+1))) g1.o (λh0=>⟨rfl,g2.o h0⟩) g3.o g4.o ?_;intro X d k);rw[Km pre _ (ns++rest) (ns.drop (p+1)) p o a.o.3 oO]at d;have h:=IW ns rest p z M;have k4:=Hi d.o a.o.3 h;rw[r.o]at k4;have f4:X.frozen? ⟨b,o+60,Z⟩=false:=by simp[G,d.o]
  obtain⟨m,hm⟩:∃m:Nat,n=m+1:=⟨n-1,O⟩;have hv:=Lj d.o a.o.3 h (T I (m:Int));have l:=Aa hv;have N:w.grownBy (X.setCell ⟨b,o+60,Z⟩ (T I (m:Int))) (F b):=Ai _ (Af (Bm b x) (Dh k));have H:=Aa N;obtain⟨u,S⟩:∃u,X.setCell ⟨b,o+60,Z⟩ (T I (m:Int))=u:=⟨_,rfl⟩;rw[S]at l H;have k5:=Hi l.o a.o.3 h;have U:=AR (splice (ns++rest) p (ns.drop (p+1)));have a1:=a.o.3;have g:∀i,i<3->∃v,u.cell? ⟨b,o+m*3+i,Z⟩=F v:=λi hi=>by
   have:o+m*3+i<(pre++(BJ (splice (ns++rest) p (ns.drop (p+1)))++T I (m:Int)::post)).length:=by simp only[J,ab];omega
   have e:=List.getElem?_eq_getElem this;exact⟨_,(by simp only[ae,l.o];rfl:u.cell? ⟨b,o+m*3+i,none⟩=(pre++(BJ (splice (ns++rest) p (ns.drop (p+1)))++.int .i64 (m:Int)::post)).toArray[o+m*3+i]?).trans ((List.getElem?_toArray ..).trans e)⟩
  obtain⟨z0,q0⟩:=g 0 O;obtain⟨z1,q1⟩:=g 1 O;obtain⟨z2,q2⟩:=g 2 O;have y0:u.frozen? ⟨b,o+m*3,Z⟩=false:=by simp[G,l.o]
  have y1:u.frozen? ⟨b,o+m*3+1,Z⟩=false:=by simp[G,l.o]
  have y2:u.frozen? ⟨b,o+m*3+2,Z⟩=false:=by simp[G,l.o]
  subst hm;simp only[Nat.add_zero]at q0;have c:=Aa (XR (s:=s) H.o z M a.o.3 r.o HD.o (by rw[show(((m+1:Nat):Int)-1)=(m:Int)by omega];exact l.o));rw[Nat.add_sub_cancel]at c;clear d k h hv N g U;go_wp2_with fail;have a0:(m:Int)<20:=O;have W:m<20:=O;go_region_law(fail);all_goals
   go_wp2;go_ret;rw[HE.o];exact⟨rfl,⟨_,c.o.1.on rfl⟩,⟨c.o.2.1,c.o.2.2,c.o.2.3,c.o.2.4,c.o.2.5⟩⟩
end Go.Proofs.YtkkallehdijiaaaGreatDoor
