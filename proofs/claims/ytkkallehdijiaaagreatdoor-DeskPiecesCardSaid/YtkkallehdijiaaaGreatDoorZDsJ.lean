import Derived.Test.YtkkallehdijiaaaGreatDoorZWInK
import Derived.Test.YtkkallehdijiaaaGreatDoorZDkT
set_option linter.all false
set_option maxHeartbeats 0
set_option maxRecDepth 99999
open Classical renaming propDecidable->F,epsilon->Y,byContradiction->bb,epsilon_spec->bh
open Go.Value renaming string->I,int->G,pointer->aa,slice->aq,tuple->au,iface->aH,agg->aR,func->bk
open Go.IntKind renaming i64->J
open Option renaming some->E,none->C
open List renaming setIfInBounds_toArray->ab,set_cons_succ->ae,set_cons_zero->af,length_append->an,getElem?_map->aw,getElem?_eq_getElem->ay,getElem?_mapIdx->aF,getElem?_eq_none_iff->aL,getElem?_eq_some_iff->aM,mem_filter->aP,getElem?_eq_none->aQ,length_mapIdx->aS,mem_flatMap->aX
open Go.Proofs.Tryz renaming prog->ac,ntmps12->bd,ntmps60->be,func12->bi,func60->bj
open Go.Ending renaming returned->ad
open Nat renaming le_refl->ag,lt_of_lt_of_le->ap,zero_le->aJ,le_trans->bf,mul_comm->bg
open Go.RowKit renaming Below->ah
open Go.AllReadyH renaming cons->ai,nil->al
open Go.Proofs.YtkkallehdijiaaaGreatDoor.Only renaming of_below->aj,set5->bc
open Go.RowKit.Hid renaming out->ak
open Go renaming Calls->am,wpAnyH_ready->ao,World->av,wpAnyH_done->aV,undef->aY
open Array renaming getElem?_eq_some_iff->ax
open Go.Act renaming put->az
open Or renaming inr->aA,inl->aI
open Bool renaming false->aB,true->aN,and_false->aZ,false_and->ba
open Go.RowKit.Below renaming refl->aC
open Go.World renaming cell?_of_block->aD,ownsRow_nil->aT
open List.Pairwise renaming filter->aE,nil->aU
open Option.some renaming inj->aG
open Int renaming toNat_natCast->aK,le_refl->aW
open Go.Calls renaming mono->aO
open Go.Proofs.Tryz
namespace Go.Proofs.YtkkallehdijiaaaGreatDoor
section
open Go.RowKit Go.Maps
def HW.z(h:HW):HW:={h with H:=0}
def WSt.z(s:WSt):WSt:={s with hs:=s.1.map HW.z}
def HW.unE(h:HW)(s:ByteArray):Int:=if Dt h.2 s≠0 then Dt h.2 s else CN h
def HW.un(h:HW)(s:ByteArray):HW:=if Dt h.2 s≠0 then h else h.wr (DL s) h.1 (del h.2 s) 0
section
variable(h:HW)
theorem TW(c:Ch)(rs':DZ)(ns':List Nm)(n:Nat):(h.wr c rs' ns' n).z=h.z.wr c rs' ns' n:=by
 have e:CN h.z=CN h:=rfl;unfold HW.wr;rw[e];split
 ·rfl
 ·split<;>rfl
theorem Q1y(u:Nat)(s:ByteArray)(pri:Int)(body:ByteArray):(h.put u s pri body).z=h.z.put u s pri body:=by have e:h.z.putE s pri body=h.putE s pri body:=rfl;unfold HW.put;rw[e];split<;>rfl
theorem Q1r(u:Nat)(s:ByteArray):(h.get u s).z=h.z.get u s:=by have e:h.z.got s=h.got s:=rfl;unfold HW.get;rw[e];split<;>rfl
theorem Ux(u:Nat):(h.comm u).z=h.z.comm u:=by
 have e:h.z.1=h.1:=rfl;have e2:h.z.2=h.2:=rfl;unfold HW.comm;rw[e,e2];split
 ·rfl
 ·exact TW h _ _ _ _
theorem ZK(u:Nat):(h.back u).z=h.z.back u:=by have e:h.z.backE u=h.backE u:=rfl;unfold HW.back;rw[e];split<;>rfl
theorem Q0n(x:Nm):(h.name x).z=h.z.name x:=by
 have e:h.z.1=h.1:=rfl;have e2:h.z.2=h.2:=rfl;unfold HW.name;rw[e,e2];split
 ·rfl
 ·exact TW h _ _ _ _
theorem Q1Z(s:ByteArray):(h.un s).z=h.z.un s:=by
 have e:h.z.1=h.1:=rfl;have e2:h.z.2=h.2:=rfl;unfold HW.un;rw[e,e2];split
 ·rfl
 ·exact TW h _ _ _ _
theorem Zw(far:Int):(h.bat far).z=h.z.bat far:=by
 have e:h.z.1=h.1:=rfl;have e2:h.z.2=h.2:=rfl;have a:h.z.st=h.st:=rfl;unfold HW.bat;rw[e,e2,a];split
 ·exact TW h _ _ _ _
 ·rfl
theorem Pd(far:Int):h.z.batE far=h.batE far:=rfl
theorem Uq(far:Int):(h.z.bat far).1=(h.bat far).1:=by rw[<-Zw];rfl
theorem ZL(far:Int):h.z.batL far=h.batL far:=by unfold HW.batL;rw[Pd,Uq]
theorem ZM(far:Int):h.z.batN far=h.batN far:=by unfold HW.batN;rw[Pd,Uq]
theorem ZO(far n:Int):(h.came far n).z=h.z.came far n:=by
 have e:h.z.1=h.1:=rfl;have e2:h.z.2=h.2:=rfl;have a:h.z.st=h.st:=rfl;unfold HW.came;rw[e,e2,a];split
 ·rfl
 ·exact TW h _ _ _ _
theorem Q1h(a:(p:Prop)->Decidable p)(far n:Int)(l:List Mg):(HW.arr a h far n l).z=HW.arr a h.z far n l:=by
 have e:h.z.1=h.1:=rfl;have e2:h.z.2=h.2:=rfl;have b:HW.arF a h.z far n l=HW.arF a h far n l:=rfl;have c:Gk h.z l=Gk h l:=rfl;have d:Gj h.z l=Gj h l:=rfl;unfold HW.arr;rw[e,e2,b,c,d];split
 ·exact TW h _ _ _ _
 ·rfl
end
section
variable{s:WSt}{k:Nat}{h:HW}
theorem KH(hk:s.1[k]?=E h):s.z.1[k]?=E h.z:=by show(s.1.map HW.z)[k]?=_;rw[aw,hk];rfl
theorem Q2a{k:Nat}{g:HW}(hk:s.z.1[k]?=E g):∃h,s.1[k]?=E h/\g=h.z:=by have hk:(s.1.map HW.z)[k]?=E g:=hk;rw[aw,Option.map_eq_some_iff]at hk;obtain⟨h,a,b⟩:=hk;exact⟨h,a,b.symm⟩
theorem RN(s:WSt):s.z.1.length=s.1.length:=List.length_map ..
theorem CV(s:WSt)(k:Nat)(h:HW):(s.setH k h).z=s.z.setH k h.z:=by unfold WSt.setH WSt.z;rw[List.map_set]
theorem Qf(s:WSt)(q:Pk):(s.send q).z=s.z.send q:=by have e:s.z.2=s.2:=rfl;unfold WSt.send;rw[e];split<;>rfl
theorem ZC(s:WSt)(i:Nat):(s.rem i).z=s.z.rem i:=rfl
theorem Rq(s:WSt)(k:Nat)(h:HW)(far:Nat):(s.sendB k h far).z=s.z.sendB k h.z far:=by
 unfold WSt.sendB;rw[Pd,ZM,ZL,<-Zw,<-CV];split
 ·exact Qf _ _
 ·rfl
theorem QL(d:(p:Prop)->Decidable p)(s:WSt)(k:Nat)(h:HW)(q:Pk):(WSt.comes d s k h q).z=WSt.comes d s.z k h.z q:=by
 have e1:∀a b c,HW.arrE d h.z a b c=HW.arrE d h a b c:=λ_ _ _=>rfl;have e2:∀a b c,HW.arrV d h.z a b c=HW.arrV d h a b c:=λ_ _ _=>rfl;unfold WSt.comes;rw[e1,e2,<-ZO,<-Q1h,<-CV,<-CV];split
 ·rfl
 ·split
  ·exact Qf _ _
  ·rfl
theorem Q1v(s:WSt):mu s.z=mu s:=rfl
theorem ZE(l:List HW):F5 (l.map HW.z)=F5 l:=by unfold F5;rw[List.map_map];rfl
end
abbrev Q3a:=((p:Prop)->Decidable p)×((List Mg->Prop)->List Mg)
def dN(c:Q3a):Nat->WSt->WSt
 |0,t=>t
 |n+1,t=>match t.2 with
  |[]=>t
  |q::_=>match t.1[q.5.toNat]? with
   |none=>t
   |some h=>dN c n (WSt.comes c.1 (t.rem 0) q.5.toNat h q)
theorem ZR{n:Nat}{t:WSt}(h:t.2=[]):dN (F,Y) n t=t:=by
 cases n with
 |zero=>rfl
 |succ n=>unfold dN;rw[h]
theorem XK{n:Nat}{t:WSt}{q:Pk}{r:List Pk}{k:Nat}{h:HW}(b:t.2=q::r)(a:q.5=(k:Int))(hk:t.1[k]?=E h):dN (F,Y) (n+1) t=dN (F,Y) n (WSt.comes F (t.rem 0) k h q):=by
 conv=>lhs;unfold dN
 rw[b];simp only[a,aK,hk]
def T6:Nat->WSt->WSt
 |0,t=>t
 |j+1,t=>match(T6 j t).1[j]? with
  |none=>T6 j t
  |some h=>(T6 j t).setH j (if h.1.9=true then(h.cut (-1)).anew 0 else h.cut (-1))
def Q0N(n m:Nat)(t:WSt):WSt:=match t.1[m/n]? with
 |none=>t
 |some h=>t.sendB (m/n) h (m%n)
def YE(c:Q3a)(n:Nat)(t:WSt):Nat->WSt
 |0=>dN c (mu (T6 n t)) (T6 n t)
 |m+1=>dN c (mu (Q0N n m (YE c n t m))) (Q0N n m (YE c n t m))
def Is(c:Q3a)(t:WSt):WSt:=YE c t.1.length t (t.1.length*t.1.length)
def Jz(c:Q3a):Nat->WSt->WSt
 |0,t=>t
 |r+1,t=>if F5 (Is c t).1=F5 t.1 then Is c t else Jz c r (Is c t)
section
variable{nms:Nat->List Nm}{n t:Nat}{s:WSt}{T:List Mg}{z0 y:WSt}
def RJ(nms:Nat->List Nm)(n t:Nat)(T:List Mg)(z0:WSt)(j:Nat)(s:WSt):Prop:=WI nms n t s T/\s.z=T6 j z0
def RA(nms:Nat->List Nm)(n t:Nat)(T:List Mg)(y s:WSt):Prop:=WI nms n t s T/\∃m,mu s<=m/\dN (F,Y) m s.z=y
def RK(nms:Nat->List Nm)(n t:Nat)(T:List Mg)(y s:WSt):Prop:=WI nms n t s T/\s.2=[]/\s.z=y
theorem V6(g:t<=260):ZF (RA nms n t T y):=λs q r hs e=>by obtain⟨d,m,l,c⟩:=hs;obtain⟨k,h,i,p,a,b⟩:=d.deliver g (j:=0) (q:=q) (by rw[e];rfl);have f:=N7 k h e;obtain⟨m',rfl⟩:∃m',m=m'+1:=⟨m-1,O⟩;refine⟨k,h,i,p,a,b,m',O,?_⟩;rw[QL,ZC,<-c];exact(XK (t:=s.z) e a.1 (KH a.2)).symm
theorem V7(h:RA nms n t T y s)(e:s.2=[]):RK nms n t T y s:=by obtain⟨a,m,-,b⟩:=h;exact⟨a,e,(ZR (n:=m) (t:=s.z) e).symm.trans b⟩
theorem Od{j:Nat}{g:HW}(h:(T6 j z0).1[j]?=E g):T6 (j+1) z0=(T6 j z0).setH j (if g.1.9=aN then(g.cut (-1)).anew 0 else g.cut (-1)):=by simp only[T6,h]
theorem YH(c:t<=260):O5 n (RJ nms n t T z0) (RA nms n t T (YE (F,Y) n z0 0)) (λm=>RK nms n t T (YE (F,Y) n z0 m)) (λm=>RA nms n t T (YE (F,Y) n z0 (m+1))) where
 len:=λ_ _ a=>a.1.2.1
 ok:=λ_ _ h a hk=>a.1.allOk _ h hk
 on:=λj s h a hk d=>⟨a.1.cut c hk O,by rw[Od (g:=h.z) (by rw[<-a.2];exact KH hk),if_neg (by show¬h.1.9=aN;rw[d];decide),<-a.2];exact CV _ _ _⟩
 up:=λj s h l a hk d=>⟨a.1.anew c hk l,by rw[Od (g:=h.z) (by rw[<-a.2];exact KH hk),if_pos (by show h.1.9=aN;exact d),<-a.2];exact CV _ _ _⟩
 a0:=λs a=>⟨a.1,mu s,ag _,by show _=dN (F,Y) (mu (T6 n z0)) (T6 n z0);rw[<-a.2,Q1v]⟩
 del0:=V6 c
 k0:=λ_ h e=>V7 h e
 klen:=λ_ s h=>⟨h.1.2.1,h.2.1,by have:=h.1.8;omega⟩
 kok:=λ_ s k h b hk=>b.1.allOk k h hk
 send:=λk far s h hk f b i=>⟨b.1.sendB0 c b.2.1 i f,mu (s.sendB k h far),ag _,by
  have e1:(k*n+far)/n=k:=by rw[bg,Nat.mul_add_div O,Nat.div_eq_of_lt f,Nat.add_zero]
  have e2:(k*n+far)%n=far:=by rw[bg,Nat.mul_add_mod,Nat.mod_eq_of_lt f]
  have o:Q0N n (k*n+far) (YE (F,Y) n z0 (k*n+far))=(s.sendB k h far).z:=by unfold Q0N;rw[<-b.2.2,e1,e2,KH i,Rq]
  show _=dN (F,Y) (mu (Q0N n (k*n+far) (YE (F,Y) n z0 (k*n+far)))) (Q0N n (k*n+far) (YE (F,Y) n z0 (k*n+far)));rw[o,Q1v]⟩
 del:=λ_=>V6 c
 ka:=λ_ _ h e=>V7 h e
def RP(nms:Nat->List Nm)(n t:Nat)(T:List Mg)(r:Nat)(y:WSt)(m:Nat)(s:WSt):Prop:=WI nms n t s T/\(m<=r->Jz (F,Y) (r-m) s.z=y)
def RF(nms:Nat->List Nm)(n t:Nat)(T:List Mg)(y s:WSt):Prop:=WI nms n t s T/\s.z=y
theorem Q0u(k:t<=260)(r:Nat):Zk n r (RP nms n t T r y) (RF nms n t T y):=λm s l c=>by
 refine⟨c.1.allOk,_,_,_,_,YH (z0:=s.z) k,⟨c.1,rfl⟩,λg b=>?_⟩;have j:s.z.1.length=n:=(RN s).trans c.1.2.1;have e:g.z=Is (F,Y) s.z:=by unfold Is;rw[j];exact b.2.2
 have a:=c.2 O;obtain⟨q,hq⟩:∃q,r-m=q+1:=⟨r-m-1,O⟩;rw[hq]at a;have h:F5 (Is (F,Y) s.z).1=F5 g.1:=by rw[<-e];exact ZE _
 have d:F5 s.z.1=F5 s.1:=ZE _;unfold Jz at a;rw[h,d]at a;refine⟨b.1.allOk,λf=>⟨b.1,λ_=>?_⟩,λi=>⟨b.1,?_⟩⟩
 ·rw[if_neg f]at a;rw[show r-(m+1)=q by omega,e];exact a
 ·rw[if_pos i]at a;exact e.trans a
end
section
variable{L:Nat->Prop}{W:Nat}{w:av}{s:WSt}{nms:Nat->List Nm}{n t:Nat}{T:List Mg}
theorem WW(g:WM L W s w)(f:WI nms n t s T)(j:t<=260){r:Nat}(i:r<=1000000):am ac 64 #[aa (E ⟨W,0,C⟩),G J (r:Int)] w λe w'=>e=ad (au #[])/\Hid (∃c,WI nms n t c T/\c.z=Jz (F,Y) r s.z/\WM L W c w'/\Only w w' (λb=>¬L b)):=by
 refine(Y5 (Q0u (y:=Jz (F,Y) r s.z) j r) g ⟨f,λ_=>rfl⟩ i).mono ?_;rintro e w' ⟨h,hs⟩;obtain⟨c,a,d⟩:=hs.o;refine⟨h,Aa ⟨c,?_⟩⟩;rcases a with a|a
 ·have:=a.2 (ag _);rw[Nat.sub_self]at this;exact⟨a.1,this,d⟩
 ·exact⟨a.1,a.2,d⟩
end
theorem Inv.unname{rs:DZ}{ns:List Nm}{d:Dk}{chs:List Ch}{i p:Nat}(h:Inv rs ns d chs i p){s:ByteArray}(b:(DL s).ok)(f:chs.length<300)(c:¬(d.2=aN/\d.3=0)):Inv rs (del ns s) (Xn d chs.length (DL s)) (chs++[DL s]) i p:=by
 have a:Az (chs++[DL s])={Az chs with ns:=del (Az chs).3 s}:=by rw[CC];rfl
 exact{h with
  log:=h.1.write b (aA (aI ⟨rfl,rfl,rfl,rfl⟩)) f c
  ord:=Le h.4 s
  rt:=λy e=>h.5 y (Rb e)
  nlen:=by have:=QQ (ns:=ns) s;have:=h.6;omega
  dead:=λy e=>h.7 y (Rb e)
  pa:=by rw[a];exact h.8
  pb:=by rw[a];exact h.9
  pn:=by rw[a];show del (Az chs).3 s=_;rw[h.pn]
  pc:=by rw[a];exact h.pc
  pm:=by rw[a];exact h.pm
  pd:=by rw[a];exact h.pd
  pr:=by rw[a];exact h.pr
  tot:=by rw[Cr];exact h.19}
section
variable{h:HW}{k i p:Nat}
theorem HOk.unOk(a:HOk h k i p){s:ByteArray}(e:Dt h.2 s=0):(DL s).ok:=by
 unfold Dt at e;cases hh:DE h.2 s with
 |none=>rw[hh]at e;simp at e
 |some y=>obtain⟨b,c⟩:=NZ hh;have q:=Fv (a.1.5 y b);rw[<-c];exact QJ q.2 q.4.1
theorem HOk.un(a:HOk h k i p)(s:ByteArray):HOk (h.un s) k i p:=by
 unfold HW.un;split
 ·exact a
 ·rename_i e;have e1:Dt h.2 s=0:=by simpa using e
  refine a.wr (a.unOk e1) rfl oS (ag _) a.4 (λe=>?_) (λ_ {_ _ _ _} q=>q);obtain⟨-,b,c⟩:=IA e;exact a.1.unname (a.unOk e1) b c
theorem YL(h:HW)(s:ByteArray):SameC h (h.un s):=by
 unfold HW.un;split
 ·exact SameC.refl h
 ·by_cases e:CN h=0
  ·rw[HW.wr_yes e];exact⟨λ_=>rfl,rfl,rfl,rfl,rfl⟩
  ·exact Ed e
theorem UJ(h:HW)(c:Ch)(ns':List Nm)(n:Nat):(h.wr c h.1 ns' n).1.2=h.1.2/\(h.wr c h.1 ns' n).1.3=h.1.3:=by
 unfold HW.wr;split
 ·exact⟨rfl,rfl⟩
 ·split<;>exact⟨rfl,rfl⟩
theorem Z3(h:HW)(s:ByteArray):(h.un s).1.2=h.1.2/\(h.un s).1.3=h.1.3:=by
 unfold HW.un;split
 ·exact⟨rfl,rfl⟩
 ·exact UJ _ _ _ _
theorem UI(h:HW)(x:Nm):(h.name x).1.2=h.1.2/\(h.name x).1.3=h.1.3:=by
 unfold HW.name;split
 ·exact⟨rfl,rfl⟩
 ·exact UJ _ _ _ _
end
section
variable{nms:Nat->List Nm}{n t k:Nat}{s:WSt}{T:List Mg}{h h':HW}
theorem WI.names(a:WI nms n t s T)(hk:s.1[k]?=E h)(d:SameC h h')(b:h'.1.2=h.1.2/\h'.1.3=h.1.3)(m:∀i p,HOk h k i p->HOk h' k i p):WI (Ae nms k h'.2) n t (s.setH k h') T:=by
 obtain⟨pb,f,c⟩:=a.3;have l:Jp h'=Jp h:=by unfold Jp;rw[d.4]
 refine⟨a.1,a.2.same hk d b.2,⟨pb,f,λj g hj=>?_⟩,λj g hj=>?_,λj g hj=>?_,λj g hj=>?_,a.7,a.8⟩
 ·by_cases e:j=k
  ·subst e;rw[Ag hk]at hj;obtain rfl:=aG hj;obtain⟨i,o,q⟩:=c j h hk;exact⟨i,m i _ o,by rw[l];exact q⟩
  ·rw[Aj hk e]at hj;exact c j g hj
 ·by_cases e:j=k
  ·subst e;rw[Ag hk]at hj;obtain rfl:=aG hj;rw[b.1];exact a.4 j h hk
  ·rw[Aj hk e]at hj;exact a.4 j g hj
 ·by_cases e:j=k
  ·subst e;rw[Ag hk]at hj;obtain rfl:=aG hj;rw[b.1];exact a.5 j h hk
  ·rw[Aj hk e]at hj;exact a.5 j g hj
 ·by_cases e:j=k
  ·subst e;rw[Ag hk]at hj;obtain rfl:=aG hj;rw[Ad]
  ·rw[Aj hk e]at hj;rw[Ac _ _ e];exact a.6 j g hj
end
section
variable{L:Nat->Prop}{W:Nat}{s:WSt}{w:av}{h:HW}{k i p:Nat}
theorem TP(f:WM L W s w)(hk:s.1[k]?=E h)(r:HOk h k i p)(t:ByteArray):am ac 55 #[aa (E ⟨h.H,0,C⟩),I t] w λe w'=>e=ad (Bb (h.unE t))/\Hid (WM L W (s.setH k (h.un t)) w'/\Only w w' (λb=>¬L b)):=by
 obtain⟨j,D,u,v,x,y,B,z⟩:=f.house hk;have c:=r.1;refine(Su j h.H D _ t h.d w u v x c.1.5 y c.4 c.5).mono ?_;intro e w' q;rcases q with⟨a,rfl,g⟩|⟨a,V,A,q⟩
 ·have a:Dt h.2 t≠0:=a;unfold HW.unE HW.un;rw[if_pos a,if_pos a,A9 a,DJ hk];exact⟨rfl,Aa ⟨f.below g,aj g⟩⟩
 ·have a:Dt h.2 t=0:=a;unfold HW.unE HW.un;rw[if_neg (λq=>q a),if_neg (λq=>q a)];obtain⟨l,a2,a3,a4⟩:=Ff (rs':=h.1) (ns':=del h.2 t) (n:=0) q rfl;obtain⟨m,o⟩:=h.wr_H (DL t) h.1 (del h.2 t) 0;exact⟨l,Aa (z w' _ m o a2 a3 ((aj A).trans (a4.mono (λ_ _ q=>aI q))))⟩
def HW.thE(h:HW)(t:ByteArray):Int:=if A4 h.2 t=aN then 0 else 7
def HW.thL(h:HW)(t:ByteArray):List Mg:=Ao Pl.free (AA (h.1.Q (.inl t)))
def HW.waE(h:HW)(j:Int):Int:=if BD h.1.3 j=aN then 0 else 2
def HW.waL(h:HW)(j:Int):List Mg:=Ao Pl.kept (AA (h.1.Q (.inr j.toNat)))
theorem TO(d:WM L W s w)(hk:s.1[k]?=E h)(c:HOk h k i p){t:ByteArray}(f:t.size<=maxLen):am ac 71 #[aa (E ⟨h.H,0,C⟩),I t] w λe w'=>∃v,e=ad (au #[v,BH (h.thE t)])/\ah w.1.size w w'/\Hid (h.thE t=0->w'.ownsRow w.1.size 95 5 v (h.thL t).length (AL (h.thL t))):=by
 refine(Xb d hk c t f).mono ?_;intro e w' q;unfold HW.thE;rcases q with⟨a,rfl,b⟩|⟨a,v,rfl,b⟩
 ·have a:A4 h.2 t=aB:=a;rw[a];exact⟨_,rfl,b,Aa (λq=>by simp at q)⟩
 ·have a:A4 h.2 t=aN:=a;rw[a];exact⟨v,rfl,b.o.2,Aa (λ_=>b.o.1)⟩
theorem TQ(f:WM L W s w)(hk:s.1[k]?=E h)(d:HOk h k i p)(j:Int):am ac 73 #[aa (E ⟨h.H,0,C⟩),G J j] w λe w'=>∃v,e=ad (au #[v,BH (h.waE j)])/\ah w.1.size w w'/\Hid (h.waE j=0->w'.ownsRow w.1.size 95 5 v (h.waL j).length (AL (h.waL j))):=by
 obtain⟨c,D,g,l,m,r,u,x⟩:=f.house hk;refine(NU c h.H D _ j w g (λs=>by have:=d.len (.inr s);exact bf this O)).mono ?_;intro e w' q;unfold HW.waE;rcases q with⟨a,rfl,rfl⟩|⟨a,v,rfl,b⟩
 ·have a:BD h.1.3 j=aB:=a;rw[a];exact⟨_,rfl,aC _ _,Aa (λq=>by simp at q)⟩
 ·have a:BD h.1.3 j=aN:=a;rw[a];exact⟨v,rfl,b.o.2,Aa (λ_=>b.o.1)⟩
theorem GV{p:Pl->Bool}{A:List Pl}(a:Fit A){m:Mg}(b:m∈Ao p (AA A)):right m=aN:=by unfold Ao at b;obtain⟨x,hx,rfl⟩:=List.mem_map.1 b;exact a.1 x ((BB a).mem_iff.1 (aP.1 hx).1)
theorem Kv{p:Pl->Bool}{A:List Pl}(a:Fit A):(Ao p (AA A)).length<=A.length:=bf (B7 p _) (by rw[(BB a).length_eq];exact ag _)
def KI(t:ByteArray)(ms:List Mg):ByteArray:=t++blk++⟨(Ay ms).toArray⟩
theorem GX{t:ByteArray}{ms:List Mg}(a:∀m∈ms,right m=aN):(KI t ms).size<=t.size+1+101*ms.length:=by
 have:=EG ms a;have e:(⟨(Ay ms).toArray⟩:ByteArray).size=(Ay ms).length:=by simp[ByteArray.size]
 unfold KI;rw[ByteArray.size_append,ByteArray.size_append,e];show t.size+1+_<=_;omega
theorem GW{B:Nat}{v:Value}{ms:List Mg}{t:ByteArray}(hv:w.ownsRow B 95 5 v ms.length (AL ms))(b:∀m∈ms,right m=aN)(f:ms.length<=100000)(g:t.size<=100000)(hL:Lay w):am ac 67 #[I t,v] w λe w'=>e=ad (I (KI t ms))/\ah w.1.size w w':=by obtain⟨a,c,rfl⟩:=Ar hv;exact Nb t a c ms w (Cz hv) (λm d=>LK (b m d)) O b O (by have:=EG ms b;omega) hL.tab
def OD(c:Q3a)(P:List Mg->Prop):List Mg:=@ite _ (∃x,P x) (c.1 _) (c.2 P) []
theorem Rw{P:List Mg->Prop}{x:List Mg}(hx:P x)(a:∀y,P y->y=x):OD (F,Y) P=x:=by have h:∃x,P x:=⟨x,hx⟩;unfold OD;rw[if_pos h];exact a _ (bh h)
end
section
variable{L:Nat->Prop}{W:Nat}{s:WSt}{w:av}
theorem OO(b:WM L W s w){k:Int}(hk:Cv s.1.length k=aB):am ac 93 #[aa (E ⟨W,0,C⟩),G J k] w λe w'=>e=ad (au #[aa C,aH 25 (G J 2)])/\w=w':=by have a:=Aa (E3 b k);rw[hk]at a;clear b;go_enter func93,ntmps93;go_wp2_with(go_at_call 102;go_must(refine a.o.mono ?_);rintro e w1 ⟨rfl,rfl⟩;refine ak ?_);refine Aa ?_;go_wp2;go_ret2;exact⟨rfl,rfl⟩
theorem TK(b:WM L W s w){k:Int}(hk:Cv s.1.length k=aB)(n t:Int):am ac 58 #[aa (E ⟨W,0,C⟩),G J k,G J n,G J t] w λe w'=>e=ad (aH 25 (G J 2))/\w=w':=by have a:=Aa (E3 b k);rw[hk]at a;clear b;go_enter func58,ntmps58;go_wp2_with(go_at_call 102;go_must(refine a.o.mono ?_);rintro e w1 ⟨rfl,rfl⟩;refine ak ?_);refine Aa ?_;go_wp2;go_ret;exact⟨rfl,rfl⟩
theorem K5(b:WM L W s w){k:Int}(hk:Cv s.1.length k=aB):am ac 59 #[aa (E ⟨W,0,C⟩),G J k] w λe w'=>e=ad (aH 25 (G J 2))/\w=w':=by have a:=Aa (E3 b k);rw[hk]at a;clear b;go_enter func59,ntmps59;go_wp2_with(go_at_call 102;go_must(refine a.o.mono ?_);rintro e w1 ⟨rfl,rfl⟩;refine ak ?_);refine Aa ?_;go_wp2;go_ret;exact⟨rfl,rfl⟩
theorem KA(b:WM L W s w){k j:Int}(hk:(Cv s.1.length k&&Cv s.1.length j)=aB):am ac 60 #[aa (E ⟨W,0,C⟩),G J k,G J j] w λe w'=>e=ad (aH 25 (G J 2))/\w=w':=by
 have a:=Aa (E3 b k);have c:=Aa (E3 b j);clear b;cases h1:Cv s.1.length k with
 |false=>rw[h1]at a;go_enter bj,be;go_wp2_with(go_at_call 102;go_must(refine a.o.mono ?_);rintro e w1 ⟨rfl,rfl⟩;refine ak ?_);refine Aa ?_;go_wp2;go_ret;exact⟨rfl,rfl⟩
 |true=>
  have d:Cv s.1.length j=aB:=by rw[h1]at hk;exact hk
  rw[h1]at a;rw[d]at c;clear hk;go_enter bj,be;go_wp2_with(go_at_call 102;go_must(refine a.o.mono ?_);rintro e w1 ⟨rfl,rfl⟩;refine ak ?_);refine Aa ?_;go_wp2_with(go_at_call 102;go_must(refine c.o.mono ?_);rintro e w1 ⟨rfl,rfl⟩;refine ak ?_);refine Aa ?_;go_wp2;go_ret;exact⟨rfl,rfl⟩
theorem K4(j:WM L W s w)(l:s.2.length<=100){i:Int}(k:Cv s.2.length i=aB):am ac 61 #[aa (E ⟨W,0,C⟩),G J i] w λe w'=>e=ad (aH 25 (G J 2))/\w=w':=by obtain⟨f,S,c,xs,v,ps,h⟩:=j;obtain⟨a,g,rfl⟩:=Ar h.9;have b:=h.pl;have d:=Aa (De W i a ps.length g w h.net1 O);rw[b,k]at d;clear h;go_enter func61,ntmps61;go_wp2_with(go_at_call 108;go_must(refine d.o.mono ?_);rintro e w1 ⟨rfl,rfl⟩;refine ak ?_);refine Aa ?_;go_wp2;go_ret;exact⟨rfl,rfl⟩
theorem Y9(b:WM L W s w):am ac 76 #[aa (E ⟨W,0,C⟩)] w λe w'=>e=ad (G J s.3)/\w=w':=by
 obtain⟨a,S,c,xs,v,ps,h⟩:=b;have c2:w.cell? ⟨W,2,C⟩=E (G J s.3):=by rw[h.1.cell];rfl
 clear h;go_enter func76,ntmps76;go_wp2;go_ret;exact⟨rfl,rfl⟩
theorem Q0p{k:Int}(hk:k<1\/4<k)(w:av):am ac 12 #[G J k] w λe w'=>e=ad (au #[aa C,aH 25 (G J 2)])/\w=w':=by
 by_cases a:k<1
 ·go_enter bi,bd;go_wp2;go_ret2;exact⟨rfl,rfl⟩
 ·have b:4<k:=O;clear hk;go_enter bi,bd;go_wp2;go_ret2;exact⟨rfl,rfl⟩
end
end
section
open Go.RowKit
def KQ:ByteArray:=⟨#[103,111,116]⟩
section
variable{S W H b n cp:Nat}{e:Int}{w:av}{Q:(Nat->Prop)->av->Prop}
theorem NR{u:Int}{s:ByteArray}{m:Mg}(d:w.cell? ⟨b,5,C⟩=E (G J u))(h6:w.cell? ⟨b,6,C⟩=E (I s))(hb:b<w.1.size)(hn:4<=n)(hr:e=0->right m=aN)(hK:∀X V,Q X V->V.cell? ⟨b,5,C⟩=E (G J u)/\V.cell? ⟨b,6,C⟩=E (I s))(a3:∀X V,Q X V->w.1.size<=V.1.size)(hL:∀X U V,Q X U->Only U V X->DLay V)(A:∀X U V,Q X U->Only U V X->V.cell? ⟨b,5,C⟩=E (G J u)/\V.cell? ⟨b,6,C⟩=E (I s))(hH:∀V,ah w.1.size w V->am ac 53 #[aa (E ⟨S,0,C⟩),aq (E ⟨b,0,C⟩) n cp] V λr w'=>r=ad (aa (E ⟨H,0,C⟩))/\ah w.1.size w w'/\ah V.1.size V w')(hO:∀V (X:Nat->Prop),ah w.1.size w V->(∀x,X x->w.1.size<=x/\x<V.1.size)->am ac 66 #[aa (E ⟨H,0,C⟩),G J u,I s] V λr w'=>r=ad (au #[aR #[G J m.1,G J m.2,I m.3,I m.4,G J m.5],BH e])/\Hid (Q X w'/\∀x,X x->w'.1[x]?=V.1[x]?)):am ac 35 #[aa (E ⟨S,0,C⟩),aq (E ⟨b,0,C⟩) n cp] w λr w'=>r=BU e (KI KQ [m])/\Hid (∃X U,Q X U/\Only U w' X):=by
 have HH:=Aa hH;have N:=Aa hK;have a4:=Aa a3;have k:Hid (∀X V,Q X V->∀o:Obj,(V.alloc o).cell? ⟨b,5,C⟩=E (G J u)/\(V.alloc o).cell? ⟨b,6,C⟩=E (I s)):=Aa (λX V q o=>A X V _ q (aj ((aC _ _).alloc (ag _) _)));have l:Hid (∀(V:av) (B:Nat),Q (λx=>x=B) V->(E8 V B m).cell? ⟨b,5,C⟩=E (G J u)/\(E8 V B m).cell? ⟨b,6,C⟩=E (I s)):=Aa (λV B q=>A _ V _ q (bc V B m));have L:Hid (∀V,ah w.1.size w V->V.cell? ⟨b,5,C⟩=E (G J u)/\V.cell? ⟨b,6,C⟩=E (I s)):=Aa (λV hV=>⟨(hV.cell (p:=⟨b,5,C⟩) hb).trans d,(hV.cell (p:=⟨b,6,C⟩) hb).trans h6⟩);have hS:w.drew.cell? ⟨b,5,C⟩=E (G J u)/\w.drew.cell? ⟨b,6,C⟩=E (I s):=⟨d,h6⟩;have a6:(2:Int)<(n:Int):=O;have a7:(3:Int)<(n:Int):=O;have h:Hid (∀V,e=0->Hid (∃X U,Q X U/\Only U V X)->am ac 67 #[I KQ,aq (E ⟨V.1.size,0,C⟩) 1 1] (V.alloc (.cells #[G J m.1,G J m.2,I m.3,I m.4,G J m.5] 95)) λr w'=>r=ad (I (KI KQ [m]))/\ah V.1.size V w'):=Aa (λV v q=>by obtain⟨X,U,y,t⟩:=q.o;have hB:=(aC V.1.size V).alloc (ag _) (.cells #[G J m.1,G J m.2,I m.3,I m.4,G J m.5] 95);have ho:(V.alloc (.cells #[G J m.1,G J m.2,I m.3,I m.4,G J m.5] 95)).ownsRow 0 95 5 (aq (E ⟨V.1.size,0,C⟩) 1 1) [m].length (AL [m]):=Gd (cur:=AL [m]) (Blk.new V _ 95) rfl rfl (ag _) (by unfold maxLen;omega) (aJ _);exact(GW ho (λx hx=>by obtain rfl:=List.mem_singleton.1 hx;exact hr v) oS oD ((hL X U V y t).1.below hB)).mono (λr w' q=>⟨q.1,Ab hB hB.4 q.2⟩));have i:Hid (∀V,e≠0->Hid (∃X U,Q X U/\Only U V X)->am ac 52 #[aH 25 (G J e)] V λr w'=>r=Bl e/\ah V.1.size V w'):=Aa (λV v q=>by obtain⟨X,U,y,t⟩:=q.o;exact A8 e V (hL X U V y t));have j:Hid (BH e=if e=0 then .nilIface else aH 25 (G J e)):=Aa rfl;obtain⟨f,a5⟩:∃f,Hid (BH e=f):=⟨_,Aa rfl⟩;rw[a5.o]at hO j;have P:=Aa hO;have HC:=Aa AU;clear hH hK a3 hL A hO hr;go_enter func35,ntmps35;go_upto_region 1 with fail;rename_i Qp Kq hKc;have z:∀(V:av) (B:Nat),Hid (∃X U,Q X U/\Only U V X)->Hid (Blk V B #[G J m.1,G J m.2,I m.3,I m.4,G J m.5] 95)->Hid (w.1.size<=B)->Kq {tmps:=#[aa (E ⟨S,0,C⟩),aq (E ⟨b,0,C⟩) n cp,aY,aY,I ⟨#[]⟩,aa (E ⟨B,0,C⟩),f,au #[aR #[G J m.1,G J m.2,I m.3,I m.4,G J m.5],f],aa (E ⟨S,0,C⟩),aq (E ⟨b,0,C⟩) n cp,aa (E ⟨H,0,C⟩),aq (E ⟨b,0,C⟩) n cp,aa (E ⟨b,4,C⟩),aa (E ⟨b,5,C⟩),G J u,aq (E ⟨b,0,C⟩) n cp,aa (E ⟨b,6,C⟩),aa (E ⟨b,6,C⟩),I s,au #[aR #[G J m.1,G J m.2,I m.3,I m.4,G J m.5],f],aR #[G J m.1,G J m.2,I m.3,I m.4,G J m.5],f,aY,aY,aY,aY,aY],defers:=[]} V:=by
  intro V B y t q3;have x0:=t.o.cell 0;have x1:=t.o.cell 1;have x2:=t.o.cell 2;have x3:=t.o.cell 3;have x4:=t.o.cell 4;simp at x0 x1 x2 x3 x4;refine hKc _ _ ?_;by_cases v:e=0
  ·subst v;obtain rfl:f=.nilIface:=by rw[j.o];rfl
   have HF:Hid (BU 0 (KI KQ [m])=ad (I (KI KQ [m]))):=Aa rfl;have HG:=Aa (h.o V rfl y);clear P h i L N k l HH;go_wp2_with(go_at_call 52;go_must(refine(HC.o _).mono ?_);rintro r w6 ⟨rfl,rfl⟩;refine ak ?_);refine Aa ?_;go_wp2_with(go_at_call 67;go_must(refine HG.o.mono ?_);rintro r w7 ⟨rfl,h7⟩;refine ak ?_);refine Aa ?_;go_wp2;go_ret;refine⟨HF.o.symm,Aa ?_⟩;obtain⟨X,U,r1,r2⟩:=y.o;exact⟨X,U,r1,r2.trans (aj h7)⟩
  ·obtain rfl:f=aH 25 (G J e):=by rw[j.o,if_neg v]
   have HE:Hid (∀x,BU e x=Bl e):=Aa (λx=>if_neg v);have HG:=Aa (i.o V v y);unfold Bl at HG HE;clear P h i L N k l HH v;go_wp2_with(go_at_call 52;go_must(refine HG.o.mono ?_);rintro r w6 ⟨rfl,h6⟩;refine ak ?_);refine Aa ?_;refine⟨rfl,(HE.o _).symm,Aa ?_⟩;obtain⟨X,U,r1,r2⟩:=y.o;exact⟨X,U,r1,r2.trans (aj h6)⟩
 clear h i HC j hKc;refine wp_region_held_drew (S:=λV=>V.cell? ⟨b,5,C⟩=E (G J u)/\V.cell? ⟨b,6,C⟩=E (I s)) K hS (λhHeld=>?_);refine tk 0 8 (aa (E ⟨S,0,C⟩)) ?_;refine tk 1 9 (aq (E ⟨b,0,C⟩) n cp) ?_;refine tk 3 11 (aq (E ⟨b,0,C⟩) n cp) ?_;refine tr 4 12 (aa (E ⟨b,4,C⟩)) ?_ ?_
 ·rintro W-;go_simp
 refine tk 5 13 (aa (E ⟨b,5,C⟩)) ?_;refine tr 6 14 (G J u) ?_ ?_
 ·rintro W ⟨z0,z1⟩;go_simp
 refine tk 7 15 (aq (E ⟨b,0,C⟩) n cp) ?_;refine tr 8 16 (aa (E ⟨b,6,C⟩)) ?_ ?_
 ·rintro W-;go_simp
 refine tk 9 17 (aa (E ⟨b,6,C⟩)) ?_;refine tr 10 18 (I s) ?_ ?_
 ·rintro W ⟨z0,z1⟩;go_simp
 refine ao (rs:=[2,15]) K oS ?_;refine ai rfl (λc a=>?_) (ai rfl (λc a=>?_) al)
 ·go_simp;refine aO (HH.o _ (aC _ _).drew) ?_;rintro r D ⟨rfl,g⟩;dsimp only;refine a.out _ _ (L.o _ g.1) (λhHeld=>?_);clear a c;try simp only[az,ab,af,ae]
  refine ao (rs:=[11,15]) K oS ?_;refine ai rfl (λc a=>?_) (ai rfl (λc a=>?_) al)
  ·go_simp;refine aO (P.o _ (λ_=>False) g.1 (λ_ q=>q.elim)) ?_;rintro r M ⟨rfl,d⟩;dsimp only;refine a.out _ _ (N.o _ _ d.o.1) (λhHeld=>?_);clear a c;try simp only[az,ab,af,ae]
   refine tk 12 7 (au #[aR #[G J m.1,G J m.2,I m.3,I m.4,G J m.5],f]) ?_;refine tk 13 20 (aR #[G J m.1,G J m.2,I m.3,I m.4,G J m.5]) ?_;refine tk 14 21 f ?_;refine ao (rs:=[15]) K oS ?_;refine ai rfl (λc a=>?_) al;go_simp;refine a.out _ _ (k.o _ _ d.o.1 _) (λhHeld=>?_);clear a c;try simp only[az,ab,af,ae]
   refine ao (rs:=[16]) K oS ?_;refine ai rfl (λc a=>?_) al;go_simp;refine a.out _ _ (k.o _ _ d.o.1 _) (λhHeld=>?_);clear a c;try simp only[az,ab,af,ae]
   refine tk 17 6 f ?_;refine aV K ?_ _;exact z _ _ (Aa ⟨_,_,d.o.1,aj ((aC _ _).alloc (ag _) _)⟩) (Aa (Blk.new _ _ _)) (Aa (a4.o _ _ d.o.1))
  ·have a2:=g.1.alloc g.1.4 (.cells #[G J 0,G J 0,I ⟨#[]⟩,I ⟨#[]⟩,G J 0] 95);go_simp;refine a.out _ _ (L.o _ a2) (λhHeld=>?_);clear a c;try simp only[az,ab,af,ae]
   refine ao (rs:=[11]) K oS ?_;refine ai rfl (λc a=>?_) al;go_simp;refine aO (P.o _ (λx=>x=D.1.size) a2 (λx q=>by subst q;exact⟨g.1.4,oS⟩)) ?_;rintro r M ⟨rfl,d⟩;dsimp only;refine a.out _ _ (N.o _ _ d.o.1) (λhHeld=>?_);clear a c;try simp only[az,ab,af,ae]
   refine tk 12 7 (au #[aR #[G J m.1,G J m.2,I m.3,I m.4,G J m.5],f]) ?_;refine tk 13 20 (aR #[G J m.1,G J m.2,I m.3,I m.4,G J m.5]) ?_;refine tk 14 21 f ?_;refine ao (rs:=[16]) K oS ?_;refine ai rfl (λc a=>?_) al;have bx:Blk M D.1.size #[G J 0,G J 0,I ⟨#[]⟩,I ⟨#[]⟩,G J 0] 95:=(d.o.2 _ rfl).trans (Blk.new D _ 95);have x0:=bx.cell 0;have x1:=bx.cell 1;have x2:=bx.cell 2;have x3:=bx.cell 3;have x4:=bx.cell 4;have y0:=bx.free 0;have y1:=bx.free 1;have y2:=bx.free 2;have y3:=bx.free 3;have y4:=bx.free 4;simp at x0 x1 x2 x3 x4;go_simp;refine a.out _ _ ?_ (λhHeld=>?_)
   ·exact l.o _ (D.1.size) d.o.1
   clear a c;try simp only[az,ab,af,ae]
   refine tk 17 6 f ?_;refine aV K ?_ _;exact z _ _ (Aa ⟨_,_,d.o.1,(bc M D.1.size m)⟩) (Aa (Gp bx m)) (Aa g.1.4)
 ·have a1:=((aC w.1.size w).alloc (ag _) (.cells #[G J 0,G J 0,I ⟨#[]⟩,I ⟨#[]⟩,G J 0] 95)).drew;have R:Blk (w.alloc (.cells #[G J 0,G J 0,I ⟨#[]⟩,I ⟨#[]⟩,G J 0] 95)).drew w.1.size #[G J 0,G J 0,I ⟨#[]⟩,I ⟨#[]⟩,G J 0] 95:=Blk.new w _ 95;go_simp;refine a.out _ _ (L.o _ a1) (λhHeld=>?_);clear a c;try simp only[az,ab,af,ae]
  refine ao (rs:=[2]) K oS ?_;refine ai rfl (λc a=>?_) al;go_simp;refine aO (HH.o _ a1) ?_;rintro r D ⟨rfl,g⟩;dsimp only;refine a.out _ _ (L.o _ g.1) (λhHeld=>?_);clear a c;try simp only[az,ab,af,ae]
  refine ao (rs:=[11]) K oS ?_;refine ai rfl (λc a=>?_) al;have a0:Blk D w.1.size #[G J 0,G J 0,I ⟨#[]⟩,I ⟨#[]⟩,G J 0] 95:=(g.2.5 _ (ax.1 R).1).trans R;go_simp;refine aO (P.o _ (λx=>x=w.1.size) g.1 (λx q=>by subst q;exact⟨ag _,(ax.1 a0).1⟩)) ?_;rintro r M ⟨rfl,d⟩;dsimp only;refine a.out _ _ (N.o _ _ d.o.1) (λhHeld=>?_);clear a c;try simp only[az,ab,af,ae]
  refine tk 12 7 (au #[aR #[G J m.1,G J m.2,I m.3,I m.4,G J m.5],f]) ?_;refine tk 13 20 (aR #[G J m.1,G J m.2,I m.3,I m.4,G J m.5]) ?_;refine tk 14 21 f ?_;refine ao (rs:=[16]) K oS ?_;refine ai rfl (λc a=>?_) al;have bx:Blk M w.1.size #[G J 0,G J 0,I ⟨#[]⟩,I ⟨#[]⟩,G J 0] 95:=(d.o.2 _ rfl).trans a0;have x0:=bx.cell 0;have x1:=bx.cell 1;have x2:=bx.cell 2;have x3:=bx.cell 3;have x4:=bx.cell 4;have y0:=bx.free 0;have y1:=bx.free 1;have y2:=bx.free 2;have y3:=bx.free 3;have y4:=bx.free 4;simp at x0 x1 x2 x3 x4;go_simp;refine a.out _ _ ?_ (λhHeld=>?_)
  ·exact l.o _ (w.1.size) d.o.1
  clear a c;try simp only[az,ab,af,ae]
  refine tk 17 6 f ?_;refine aV K ?_ _;exact z _ _ (Aa ⟨_,_,d.o.1,(bc M w.1.size m)⟩) (Aa (Gp bx m)) (Aa (ag _))
end
end
section
open Go.RowKit Go.Maps
section
variable{L:Nat->Prop}{W:Nat}{w:av}{s:WSt}
theorem WU(d:WM L W s w){k j:Nat}{h:HW}(hk:s.1[j]?=E h):am ac 129 #[aa (E ⟨h.H,0,C⟩),G J (k:Int)] w λe w'=>(∃ev,e=ad (au #[G J (BX s k j),ev]))/\w=w':=by
 refine(Qu d hk k).mono ?_;rintro e w' ⟨⟨b,c⟩|⟨b,c⟩,rfl⟩
 ·have a:BX s k j=0:=by unfold BX;rw[hk];simp only;rw[b,if_neg oD]
  rw[a];exact⟨⟨_,c⟩,rfl⟩
 ·have a:BX s k j=h.1.8 k:=by unfold BX;rw[hk];simp only;rw[b,if_pos rfl]
  rw[a];exact⟨⟨_,c⟩,rfl⟩
theorem Q0h(w:av):am ac 237 #[aq C 0 0,G J 0,G J 0,bk (.func 132) #[] #[]] w λe w'=>e=ad (au #[])/\w=w':=by
 go_enter func237,ntmps237;go_wp2;go_loopg[8] 1 (λgk v wr=>v=G J 1/\w=wr);case atStart=>exact⟨rfl,rfl⟩
 case round=>obtain⟨rfl,rfl⟩:=hrel;go_wp2;go_end0;exact⟨rfl,rfl⟩
theorem YT(w:av):am ac 131 #[aq C 0 0,bk (.func 132) #[] #[]] w λe w'=>e=ad (au #[])/\w=w':=by
 have a:=Aa (Q0h w);have HS:Hid (am ac 193 #[aq C 0 0,G J 0,bk (.func 132) #[] #[]] w λe w'=>e=ad (au #[])/\w=w'):=Aa (by
  go_enter func193,ntmps193;go_wp2;go_loopg[7,8] 1 (λgk b vb wr=>b=G J 0/\vb=G J 20/\w=wr);case atStart=>exact⟨rfl,rfl,rfl⟩
  case round=>
   obtain⟨rfl,rfl,rfl⟩:=hrel;go_wp2_with(go_at_call 237;go_must(refine a.o.mono ?_);rintro e w1 ⟨rfl,rfl⟩;refine ak ?_);refine Aa ?_;go_wp2;go_loopg[6,7,8,9] 1 (λgk c d f v9 wr=>c=G J 20/\w=wr);case atStart=>exact⟨rfl,rfl⟩
   case round=>obtain⟨rfl,rfl⟩:=hrel;go_wp2;go_end0;exact⟨rfl,rfl⟩);clear a;go_enter func131,ntmps131;go_wp2_with(go_at_call 193;go_must(refine HS.o.mono ?_);rintro e w1 ⟨rfl,rfl⟩;refine ak ?_);refine Aa ?_;go_wp2;go_end0;exact⟨rfl,rfl⟩
theorem TL(hM:WM L W s w)(b4:Fe s):am ac 74 #[aa (E ⟨W,0,C⟩)] w λe w'=>∃M,e=ad M/\Hid (∃Z l,w'.ownsRow w.1.size 95 5 M Z.length (AL Z)/\Df Z/\Z.Perm l/\LedN s s.1.length l/\ah w.1.size w w'):=by
 have h4:=(EH hM).choose_spec.choose_spec.2;have HA:=Aa (GZ hM b4);obtain⟨n,Hn⟩:∃n,Hid (s.1.length=n):=⟨_,rfl⟩;rw[Hn.o]at HA h4;have HM:=Aa hM;have b9:=Aa b4;clear hM b4;go_enter func74,ntmps74;go_wp2_with(go_at_call 128;go_must(refine HA.o.mono ?_);rintro e w1 ⟨v1,rfl,A⟩;refine ak ?_);refine Aa ?_;obtain⟨a1,d6,rfl⟩:=Ar A.o.1;clear HA;go_wp2;go_loopg[3,13] n (λgk l v wr=>∃i:Nat,v=G J i/\i<=n/\n-i<=gk/\Hid (∃x,wr.ownsRow w1.1.size 95 5 l x.length (AL x)/\LedN s i x/\x.length<=10000*i)/\Hid (ah w1.1.size w1 wr));case atStart=>exact⟨0,rfl,aJ _,ag _,Aa ⟨[],aT _ _ _ _,LedN.nil s,aJ _⟩,Aa (aC _ _)⟩
 case round=>
  obtain⟨i,rfl,e0,d9,HX,HB⟩:=hrel;by_cases d4:i<n
  ·obtain⟨h,hk⟩:∃h,s.1[i]?=E h:=⟨_,ay (by rw[Hn.o];omega)⟩;obtain⟨ii,pp,h0⟩:=b9.o i h hk;obtain⟨g,rfl,c6,hc⟩:=MZ A.o.1 hk d4;have q0:=(HB.o.cell (p:=⟨g,i,C⟩) c6).trans hc;have y:ah w.1.size w wr:=Ab A.o.2 A.o.2.4 HB.o;obtain⟨x,c8,c9,d5⟩:=HX.o;have a4:Hid (am ac 72 #[aa (E ⟨h.H,0,C⟩)] wr λe w'=>∃M,e=ad M/\Hid (∃ks,D2 (λt=>h.1.Q (.inl t)) ks/\(AW (λt=>h.1.Q (.inl t)) ks).length<=2000/\w'.ownsRow wr.1.size 95 5 M (AW (λt=>h.1.Q (.inl t)) ks).length (AL (AW (λt=>h.1.Q (.inl t)) ks))/\ah wr.1.size wr w')):=Aa ((RH (HM.o.below y) hk h0).mono (λe w' q=>by obtain⟨ks,M,q1,q2⟩:=q;exact⟨M,q1,Aa ⟨ks,q2.o.1,JU h0 q2.o.1,q2.o.2.1,q2.o.2.2⟩⟩));have a8:=Aa c8;have d1:=Aa c9;obtain⟨xl,b0⟩:∃xl,Hid (x.length=xl):=⟨_,rfl⟩;rw[b0.o]at a8 d5;have HK:=Aa hk;have H0:=Aa h0;have B:Hid (∀(j:Nat) wx,ah w1.1.size w1 wx->am ac 130 #[aa (E ⟨h.H,0,C⟩),G J (j:Int),G J (BX s i j)] wx λe w'=>∃M,e=ad M/\Hid (w'.ownsRow wx.1.size 95 5 M (Lw h.1 j (BX s i j)).length (AL (Lw h.1 j (BX s i j)))/\ah wx.1.size wx w')):=Aa (λj wx hB=>TM (HM.o.below (Ab A.o.2 A.o.2.4 hB)) hk h0 j _ (Xu b9.o i j));obtain⟨H,HH⟩:∃H,Hid (h.H=H):=⟨_,rfl⟩;rw[HH.o]at a4 q0 hc B;clear c8 c9 HX y h0 hk hc;go_wp2_with(go_at_call 72;go_must(refine a4.o.mono ?_);rintro e w2 ⟨v2,rfl,h2⟩;refine ak ?_);refine Aa ?_;obtain⟨ks,k1,k3,k4,k5⟩:=h2.o;have d0:=Aa k1;have a5:=Aa (Ce a8.o k5);have R:Hid (ah w1.1.size w1 w2):=Aa (Ab HB.o HB.o.4 k5);have a0:w1.1.size<=w2.1.size:=R.o.4;obtain⟨K,b8⟩:∃K,Hid (AW (λt=>h.1.Q (.inl t)) ks=K):=⟨_,rfl⟩;rw[b8.o]at k3 k4;obtain⟨nt,a9⟩:∃nt,Hid (K.length=nt):=⟨_,rfl⟩;rw[a9.o]at k3 k4;have b7:=Aa k4;clear k1 k4 k5 h2 a4 a8;have c3:xl+nt<=100000:=O;go_wp2_with(at_builtin;go_must(refine Mo rfl _ _ rfl w1.1.size wr.1.size u3 v2 xl nt x K rfl rfl a5.o b7.o c3 a0 ?_));intro v5 w5 h5;have b5:Hid (ah w1.1.size w1 w5):=Aa (AJ R.o a5.o h5.o.2 R.o.4 (ag _));have c1:Hid (∃z,w5.ownsRow w1.1.size 95 5 v5 (xl+z.length) (AL (x++z))/\z=K++Dz s i h.1 0/\z.length<=2000+2000*0):=Aa ⟨K,by rw[a9.o];exact h5.o.1,by simp[Dz],by rw[a9.o];omega⟩;clear h5 a5 b7 R a0 c3;go_wp2;go_loopg[3,22] 4 (λd3 l v wx=>∃j:Nat,v=G J j/\j<=4/\4-j<=d3/\Hid (∃z,wx.ownsRow w1.1.size 95 5 l (xl+z.length) (AL (x++z))/\z=K++Dz s i h.1 j/\z.length<=2000+2000*j)/\Hid (ah w1.1.size w1 wx));case atStart=>exact⟨0,rfl,aJ _,ag _,c1,b5⟩
   case round=>
    clear c1 b5;obtain⟨j,rfl,e3,d8,HZ,d⟩:=hrel;by_cases d7:j<4
    ·obtain⟨z,z1,z2,z3⟩:=HZ.o;obtain⟨zl,b1⟩:∃zl,Hid (z.length=zl):=⟨_,rfl⟩;rw[b1.o]at z1 z3;have S:=Aa z1;have d2:=Aa z2;have a3:Hid (ah w.1.size w wr):=Aa (Ab A.o.2 A.o.2.4 d.o);have a:=Aa (E3 (HM.o.below a3.o) (j:Int));have m:=Aa (B.o j wr d.o);obtain⟨nl,U⟩:∃nl,Hid ((Lw h.1 j (BX s i j)).length=nl):=⟨_,rfl⟩;have e4:nl<=2000:=by rw[<-U.o];exact Rf H0.o j _
     obtain⟨N,HN⟩:∃N,Hid (Lw h.1 j (BX s i j)=N):=⟨_,rfl⟩;rw[U.o,HN.o]at m;have c:Hid (∀(v6:Value) (w6:av),w6.ownsRow w1.1.size 95 5 v6 (xl+zl+nl) (AL (x++(z++N)))->∃z',w6.ownsRow w1.1.size 95 5 v6 (xl+z'.length) (AL (x++z'))/\z'=K++Dz s i h.1 (j+1)/\z'.length<=2000+2000*(j+1)):=Aa (λv6 w6 ho=>⟨z++N,by
      have e:(z++N).length=zl+nl:=by rw[an,b1.o,<-HN.o,U.o]
      rw[e,<-Nat.add_assoc];exact ho,by rw[d2.o,Ky,HN.o,List.append_assoc],by rw[an,b1.o,<-HN.o,U.o];omega⟩);have c4:xl+zl+nl<=100000:=O;clear z1 z2 HZ;by_cases b2:j<n
     ·rw[Hn.o,B6 b2]at a;obtain⟨h',b3⟩:∃h',s.1[j]?=E h':=⟨_,ay (by rw[Hn.o];omega)⟩;obtain⟨g',eg,-,c5⟩:=MZ A.o.1 b3 b2;obtain rfl:g=g':=by injection eg with eg;injection eg
      have c0:=(d.o.cell (p:=⟨g,j,C⟩) c6).trans c5;have P:=Aa (WU (k:=i) (HM.o.below a3.o) b3);obtain⟨H',b6⟩:∃H',Hid (h'.H=H'):=⟨_,rfl⟩;rw[b6.o]at P c0;generalize BX s i j=ar at P m;clear c5 b3 eg b6 a B;have a:=Aa (E3 (HM.o.below a3.o) (j:Int));rw[Hn.o,B6 b2]at a;go_wp2_with(go_at_call 102;go_must(refine a.o.mono ?_);rintro e w6 ⟨rfl,rfl⟩;refine ak ?_);refine Aa ?_;go_wp2_with(go_at_call 129;go_must(refine P.o.mono ?_);rintro e w6 ⟨⟨ev,rfl⟩,rfl⟩;refine ak ?_);refine Aa ?_;go_wp2_with(go_at_call 130;go_must(refine m.o.mono ?_);rintro e w7 ⟨v7,rfl,V⟩;refine ak ?_);refine Aa ?_;have u:=Aa (Ce S.o V.o.2);have b:Hid (ah w1.1.size w1 w7):=Aa (Ab d.o d.o.4 V.o.2);have f:w1.1.size<=w7.1.size:=b.o.4;have D:=Aa V.o.1;clear V P m a S c0;go_wp2_with(at_builtin;go_must(refine Mo rfl _ _ rfl w1.1.size wr.1.size u3 v7 (xl+zl) nl (x++z) N rfl rfl u.o D.o c4 f ?_));intro v8 w8 X;have a2:Hid (ah w1.1.size w1 w8):=Aa (AJ b.o u.o X.o.2 b.o.4 (ag _));have a6:=Aa (c.o v8 w8 (by first|exact X.o.1|(rw[<-List.append_assoc];exact X.out.1)));clear X u D b f c;go_wp2;go_roundg (gk-1);case rel=>exact⟨j+1,by go_num,O,O,a6,a2⟩
      case measure=>omega
     ·have hh:Cv n (j:Int)=aB:=by simp[Cv];omega
      rw[Hn.o,hh]at a;have ea:BX s i j=0:=by unfold BX;rw[aQ (by rw[Hn.o];omega)]
      rw[ea]at m;clear ea hh B;go_wp2_with(go_at_call 102;go_must(refine a.o.mono ?_);rintro e w6 ⟨rfl,rfl⟩;refine ak ?_);refine Aa ?_;go_wp2_with(go_at_call 130;go_must(refine m.o.mono ?_);rintro e w7 ⟨v7,rfl,V⟩;refine ak ?_);refine Aa ?_;have u:=Aa (Ce S.o V.o.2);have b:Hid (ah w1.1.size w1 w7):=Aa (Ab d.o d.o.4 V.o.2);have f:w1.1.size<=w7.1.size:=b.o.4;have D:=Aa V.o.1;clear V m a S;go_wp2_with(at_builtin;go_must(refine Mo rfl _ _ rfl w1.1.size wr.1.size u3 v7 (xl+zl) nl (x++z) N rfl rfl u.o D.o c4 f ?_));intro v8 w8 X;have a2:Hid (ah w1.1.size w1 w8):=Aa (AJ b.o u.o X.o.2 b.o.4 (ag _));have a6:=Aa (c.o v8 w8 (by first|exact X.o.1|(rw[<-List.append_assoc];exact X.out.1)));clear X u D b f c;go_wp2;go_roundg (gk-1);case rel=>exact⟨j+1,by go_num,O,O,a6,a2⟩
      case measure=>omega
    ·obtain rfl:j=4:=O;have HE:Hid (∃x',wr.ownsRow w1.1.size 95 5 u3 x'.length (AL x')/\LedN s (i+1) x'/\x'.length<=10000*(i+1)):=Aa (by obtain⟨z,z1,z2,z3⟩:=HZ.o;refine⟨x++z,by rw[an,b0.o];exact z1,d1.o.snoc HK.o ⟨ks,d0.o,by rw[b8.o];exact z2⟩,by rw[an,b0.o];omega⟩);clear HZ B;go_wp2;go_roundg (n-(i+1));case rel=>exact⟨i+1,by go_num,O,O,HE,d⟩
     case measure=>omega
  ·obtain rfl:i=n:=O;have HS:Hid (∃T,(wr.ownsRow w1.1.size 95 5 u3 T.length (AL T)/\T.length<=50000)/\LedN s s.1.length T):=Aa (by obtain⟨x,x1,x2,x3⟩:=HX.o;exact⟨x,⟨x1,O⟩,by rw[Hn.o];exact x2⟩);have a7:Hid (am ac 131 #[u3,bk (.func 132) #[] #[]] wr λe w'=>e=ad (au #[])/\Hid (∃Z l,w'.ownsRow w.1.size 95 5 u3 Z.length (AL Z)/\Df Z/\Z.Perm l/\LedN s s.1.length l/\ah w.1.size w w')):=Aa (by
    obtain⟨T,⟨t1,t2⟩,t3⟩:=HS.o;have y:ah w.1.size w wr:=Ab A.o.2 A.o.2.4 HB.o;have c7:=A.o.2.4;rcases own_rowM t1 with⟨e1,e2⟩|⟨g2,c2,e1,-⟩
    ·subst e1 e2;refine(YT wr).mono ?_;rintro e w' ⟨rfl,rfl⟩;exact⟨rfl,Aa ⟨[],[],aT _ _ _ _,aU,List.Perm.refl _,t3,y⟩⟩
    ·subst e1;refine(Q0B wr g2 w1.1.size T.length c2 T wr (RW.refl t1 rfl) t2).mono ?_;rintro e w' ⟨rfl,r⟩;obtain⟨Z,r1,r2,r3⟩:=r.o;have hl:=r1.2;refine⟨rfl,Aa ⟨Z,T,?_,r2,r3,t3,?_⟩⟩
     ·rw[hl];exact Be r1.1 c7
     ·exact AJ y t1 r1.3 y.4 c7);clear HS HX;go_wp2_with(go_at_call 131;go_must(refine a7.o.mono ?_);rintro e w9 ⟨rfl,h9⟩;refine ak ?_);refine Aa ?_;go_wp2;go_ret;exact⟨_,rfl,h9⟩
end
abbrev DR:=Int×ByteArray×WSt
def Ob(z:WSt):DR:=(2,⟨#[]⟩,z)
def hAt(z:WSt)(k:Int):Option HW:=if 0<=k then z.1[k.toNat]? else C
def Q0M(z:WSt)(i:Int):Option Pk:=if 0<=i then z.2[i.toNat]? else C
def hD(z:WSt)(k:Int)(f:Nat->HW->DR):DR:=match hAt z k with
 |none=>Ob z
 |some h=>f k.toNat h
def uD(z:WSt)(u:Int)(r:DR):DR:=if 0<=u/\u<5 then r else Ob z
def Db(n:Nat):WSt:=⟨(List.replicate n 0).mapIdx Dw,[],0⟩
def FY(c:Q3a)(h:HW):List Mg:=OD c λl=>∃ks,D2 (λt=>h.1.Q (.inl t)) ks/\l=AW (λt=>h.1.Q (.inl t)) ks
def I6(c:Q3a)(z:WSt):List Mg:=OD c λZ=>∃l,Df Z/\Z.Perm l/\LedN z z.1.length l
def Py(z:WSt)(a0 a:Wd):DR:=if 1<=a.n/\a.n<=4 then(0,a0.t,Db a.n.toNat)else Ob z
def US(z:WSt)(a0 a a2 a3 a4:Wd):DR:=hD z a.n λk h=>(h.nameE ⟨a2.t,I4 a3.t,a4.n⟩,a0.t,z.setH k (h.name ⟨a2.t,I4 a3.t,a4.n⟩))
def Q1T(z:WSt)(a0 a a2:Wd):DR:=hD z a.n λk h=>(h.unE a2.t,a0.t,z.setH k (h.un a2.t))
def Z5(z:WSt)(a0 a a2:Wd):DR:=hD z a.n λk h=>uD z a2.n (h.commE a2.n.toNat,a0.t,z.setH k (h.comm a2.n.toNat))
def UO(z:WSt)(a0 a a2:Wd):DR:=hD z a.n λk h=>uD z a2.n (h.backE a2.n.toNat,a0.t,z.setH k (h.back a2.n.toNat))
def Z6(z:WSt)(a0 a a2 a3:Wd):DR:=hD z a.n λk h=>(0,a0.t,z.setH k (h.cutT a2.n a3.n))
def Z9(z:WSt)(a0 a:Wd):DR:=hD z a.n λk h=>(0,a0.t,z.setH k ((h.cut (-1)).anew 0))
def UT(z:WSt)(a0 a a2:Wd):DR:=hD z a.n λk h=>hD z a2.n λj _=>(h.batE a2.n,a0.t,z.sendB k h j)
def XW(c:Q3a)(z:WSt)(a0 a:Wd):DR:=match Q0M z a.n with
 |none=>Ob z
 |some q=>hD z q.5 λk h=>(0,a0.t,WSt.comes c.1 (z.rem a.n.toNat) k h q)
def QX(z:WSt)(a0 a:Wd):DR:=match Q0M z a.n with
 |none=>Ob z
 |some _=>(0,a0.t,z.rem a.n.toNat)
def ME(z:WSt)(a0 a:Wd):DR:=match Q0M z a.n with
 |none=>Ob z
 |some q=>(0,a0.t,z.send q)
def UP(c:Q3a)(z:WSt)(a0 a:Wd):DR:=if 0<=a.n/\a.n<=100 then(0,a0.t,Jz c a.n.toNat z)else Ob z
def Z8(z:WSt)(a a2 a3 a4 a5:Wd):DR:=hD z a.n λk h=>uD z a2.n (h.putE a3.t a4.n a5.t,Dv (if h.putE a3.t a4.n a5.t=0 then(h.putM a3.t a4.n a5.t).1 else 0),z.setH k (h.put a2.n.toNat a3.t a4.n a5.t))
def Z7(z:WSt)(a a2 a3:Wd):DR:=hD z a.n λk h=>uD z a2.n (h.getE a3.t,KI KQ [h.getM a3.t],z.setH k (h.get a2.n.toNat a3.t))
def Pv(z:WSt)(a0 a:Wd):DR:=hD z a.n λ_ h=>(0,a0.t++blk++IK h.2,z)
def Pw(z:WSt)(a0 a a2:Wd):DR:=hD z a.n λ_ h=>(h.thE a2.t,KI a0.t (h.thL a2.t),z)
def UQ(c:Q3a)(z:WSt)(a0 a:Wd):DR:=hD z a.n λ_ h=>(0,KI a0.t (FY c h),z)
def Px(z:WSt)(a0 a a2:Wd):DR:=hD z a.n λ_ h=>(h.waE a2.n,KI a0.t (h.waL a2.n),z)
def MD(c:Q3a)(z:WSt)(a0:Wd):DR:=(0,KI a0.t (I6 c z),z)
def UR(z:WSt):DR:=(0,Dv (z.2.length:Int)++blk++Dv z.3,z)
def KL(K:Nat->Prop)(S M:Nat):Nat->Prop:=λb=>K b\/b=S\/b=M\/b<12
theorem WM.lay{L:Nat->Prop}{W:Nat}{s:WSt}{w:av}(h:WM L W s w):Lay w:=by obtain⟨a,S,c,xs,v,ps,h⟩:=h;exact h.16
theorem WM.lt{L:Nat->Prop}{W:Nat}{s:WSt}{w:av}(h:WM L W s w){b:Nat}(d:L b):b<w.1.size:=by obtain⟨a,S,c,xs,v,ps,h⟩:=h;exact(h.hL b d).1
structure DMx(S M:Nat)(K:Nat->Prop)(t W n:Nat)(s:WSt)(nms:Nat->List Nm)(T:List Mg)(w:av):Prop where
 blk:Blk w S #[aa (E ⟨W,0,C⟩),.map (E M)] 46
 dq:DeQ S w M 21 E6
 lo:12<=S/\12<=M/\S≠M
 far:¬K S/\¬K M
 wm:WM (KL K S M) W s w
 wi:WI nms n t s T
 ety:w.cell? ⟨6,0,C⟩=E (aH 299 (aR #[aa (E ⟨12,36,C⟩)]))
def DM(S M:Nat)(K:Nat->Prop)(z:WSt)(t:Nat)(w:av):Prop:=∃W n s nms T,s.z=z/\DMx S M K t W n s nms T w
section
variable{S M t W n:Nat}{K K':Nat->Prop}{s s' z:WSt}{nms nms':Nat->List Nm}{T T':List Mg}{w w' V:av}
theorem DMx.lay(h:DMx S M K t W n s nms T w):DLay w:=⟨h.5.lay,h.7⟩
theorem DMx.sl(h:DMx S M K t W n s nms T w):S<w.1.size:=(ax.1 h.1).1
theorem DMx.kl(h:DMx S M K t W n s nms T w){b:Nat}(a:K b):b<w.1.size:=h.5.lt (aI a)
theorem DMx.cS(h:DMx S M K t W n s nms T w):w.cell? ⟨S,0,C⟩=E (aa (E ⟨W,0,C⟩))/\w.cell? ⟨S,1,C⟩=E (.map (E M)):=by have c0:=h.1.cell 0;have c1:=h.1.cell 1;exact⟨c0,c1⟩
theorem DMx.keep(h:DMx S M K t W n s nms T w)(a:Only w w' (λb=>¬KL K S M b)):Blk w' S #[aa (E ⟨W,0,C⟩),.map (E M)] 46/\DeQ S w' M 21 E6/\w'.cell? ⟨6,0,C⟩=E (aH 299 (aR #[aa (E ⟨12,36,C⟩)])):=⟨(a.5 S h.sl (λq=>q (aA (aI rfl)))).trans h.1,h.2.on (a.5 M h.2.lt (λq=>q (aA (aA (aI rfl))))),(aD (a.5 6 (h.5.lt (aA (aA (aA O)))) (λq=>q (aA (aA (aA O)))))).trans h.7⟩
theorem DMx.below(h:DMx S M K t W n s nms T w)(a:ah w.1.size w w'):DMx S M K t W n s nms T w':=by obtain⟨c,a2,a3⟩:=h.keep (aj a);exact⟨c,a2,h.3,h.4,h.5.below a,h.6,a3⟩
theorem DMx.op(h:DMx S M K t W n s nms T w)(c:ah w.1.size w V){d:Nat}(a:WM (KL K S M) W s' w'/\Only V w' (λb=>¬KL K S M b))(f:WI nms' n d s' T')(g:s'.z=z):DM S M K z d w'/\Only w w' (λb=>¬K b):=by obtain⟨e,a2,a3⟩:=(h.below c).keep a.2;exact⟨⟨W,n,s',nms',T',g,e,a2,h.3,h.4,a.1,f,a3⟩,(aj c).trans (a.2.mono (λb _ q=>aI (λk=>q (aI k))))⟩
theorem DM.below(h:DM S M K z t w)(a:ah w.1.size w w'):DM S M K z t w':=by obtain⟨W,n,s,nms,T,c,h⟩:=h;exact⟨W,n,s,nms,T,c,h.below a⟩
theorem DM.lay(h:DM S M K z t w):DLay w:=by obtain⟨W,n,s,nms,T,a,h⟩:=h;exact h.lay
theorem DM.up(h:DM S M K z t w){a:Nat}(c:t<=a):DM S M K z a w:=by obtain⟨W,n,s,nms,T,d,h⟩:=h;exact⟨W,n,s,nms,T,d,h.1,h.2,h.3,h.4,h.5,h.6.more c,h.7⟩
theorem DMx.more(h:DMx S M K t W n s nms T w)(a:Only w w' (λb=>K b/\12<=b))(d:∀b,K' b->(K b\/w.1.size<=b)/\b<w'.1.size):DMx S M K' t W n s nms T w':=by
 have far:∀b,b<w.1.size->¬K b->¬K' b:=λb g e f=>((d b f).1).elim e (λq=>O);refine⟨(a.5 S h.sl (λq=>h.4.1 q.1)).trans h.1,h.2.on (a.5 M h.2.lt (λq=>h.4.2 q.1)),h.3,⟨far S h.sl h.4.1,far M h.2.lt h.4.2⟩,?_,h.6,?_⟩
 ·refine h.5.more (a.mono (λb _ q=>⟨aI q.1,q.2⟩)) (λb c=>?_);rcases c with c|rfl|rfl|c
  ·exact⟨((d b c).1).imp aI id,(d b c).2⟩
  ·exact⟨aI (aA (aI rfl)),ap h.sl a.4⟩
  ·exact⟨aI (aA (aA (aI rfl))),ap h.2.lt a.4⟩
  ·exact⟨aI (aA (aA (aA c))),ap (h.5.lt (aA (aA (aA c)))) a.4⟩
 ·exact(aD (a.5 6 (h.5.lt (aA (aA (aA O)))) (λq=>by have:=q.2;omega))).trans h.7
theorem DM.more(h:DM S M K z t w)(c:Only w w' (λb=>K b/\12<=b))(a:∀b,K' b->(K b\/w.1.size<=b)/\b<w'.1.size):DM S M K' z t w':=by obtain⟨W,n,s,nms,T,d,h⟩:=h;exact⟨W,n,s,nms,T,d,h.more c a⟩
def DPost(S M:Nat)(K:Nat->Prop)(w:av)(r:DR)(a:Nat)(e:Ending)(w':av):Prop:=e=BU r.1 r.2.1/\r.2.1.size<=100000000/\Hid (DM S M K r.2.2 a w'/\Only w w' (λb=>¬K b))
theorem Al(a:Only w w' (λb=>¬K b)){b:Nat}(c:K b)(d:b<w.1.size)(j:Nat):w'.cell? ⟨b,j,C⟩=w.cell? ⟨b,j,C⟩:=aD (a.5 b d (λq=>q c))
theorem DPost.u{r:DR}{c:Nat}{e:Ending}(hs:r.2.1.size<=100000000)(h:e=BU r.1 r.2.1/\Hid (∃u,(DM S M K r.2.2 c u/\Only w u (λb=>¬K b))/\ah u.1.size u w')):DPost S M K w r c e w':=by obtain⟨u,⟨d,f⟩,a⟩:=h.2.o;exact⟨h.1,hs,Aa ⟨d.below a,f.trans (aj a)⟩⟩
theorem DPost.same{r:DR}{e:Ending}(h:DM S M K r.2.2 t w)(c:e=BU r.1 r.2.1)(hs:r.2.1.size<=100000000)(a:ah w.1.size w w'):DPost S M K w r t e w':=⟨c,hs,Aa ⟨h.below a,aj a⟩⟩
theorem hAt_cases(s:WSt)(k:Int):(hAt s.z k=C/\Cv s.1.length k=aB)\/∃(j:Nat) (h:HW),k=(j:Int)/\s.1[j]?=E h/\hAt s.z k=E h.z:=by
 unfold hAt Cv;by_cases hk:0<=k
 ·obtain⟨j,rfl⟩:∃j:Nat,k=(j:Int):=⟨k.toNat,O⟩;rw[if_pos hk,aK];cases hh:s.1[j]? with
  |none=>
   have:=aL.1 hh;refine aI ⟨?_,?_⟩
   ·show(s.1.map HW.z)[j]?=C;rw[aw,hh];rfl
   ·rw[show decide ((j:Int)<(s.1.length:Int))=aB from decide_eq_false O,aZ]
  |some h=>exact .inr ⟨j,h,rfl,hh,KH hh⟩
 ·rw[if_neg hk];exact aI ⟨rfl,by rw[show decide (0<=k)=aB from decide_eq_false hk,ba]⟩
theorem Cb{k:Int}{f:Nat->HW->DR}(h:hAt z k=C):hD z k f=Ob z:=by unfold hD;rw[h]
theorem BY{j:Nat}{f:Nat->HW->DR}{h:HW}(a:hAt z (j:Int)=E h):hD z (j:Int) f=f j h:=by unfold hD;rw[a];rfl
theorem M8{u:Int}{r:DR}(h:0<=u/\u<5):uD z u r=r:=if_pos h
theorem Rx{u:Int}{r:DR}(h:¬(0<=u/\u<5)):uD z u r=Ob z:=if_neg h
theorem pAt_cases(s:WSt)(k:Int):(Q0M s.z k=C/\Cv s.2.length k=aB)\/∃(j:Nat) (q:Pk),k=(j:Int)/\s.2[j]?=E q/\Q0M s.z k=E q:=by
 unfold Q0M Cv;by_cases hk:0<=k
 ·obtain⟨j,rfl⟩:∃j:Nat,k=(j:Int):=⟨k.toNat,O⟩;rw[if_pos hk,aK];cases hh:s.2[j]? with
  |none=>have:=aL.1 hh;refine aI ⟨hh,?_⟩;rw[show decide ((j:Int)<(s.2.length:Int))=aB from decide_eq_false O,aZ]
  |some q=>exact .inr ⟨j,q,rfl,hh,hh⟩
 ·rw[if_neg hk];exact aI ⟨rfl,by rw[show decide (0<=k)=aB from decide_eq_false hk,ba]⟩
structure Jn(w:av)(b:Nat)(ws:List Wd):Prop where
 cells:∀(j:Nat) (x:Wd),ws[j]?=E x->w.cell? ⟨b,j*2,C⟩=E (I x.t)/\w.cell? ⟨b,j*2+1,C⟩=E (G J x.n)
 small:∀x∈ws,x.t.size<=3000/\-9223372036854775808<=x.n/\x.n<=9223372036854775807
section
variable{b m cp:Nat}{h:HW}{i p j:Nat}
theorem DMx.at53(c:DMx S M K t W n s nms T w)(f:b<w.1.size)(e:w.cell? ⟨b,3,C⟩=E (G J (j:Int)))(k:2<=m)(hk:s.1[j]?=E h)(g:HOk h j i p):∀V,ah w.1.size w V->am ac 53 #[aa (E ⟨S,0,C⟩),aq (E ⟨b,0,C⟩) m cp] V λr w'=>r=ad (aa (E ⟨h.H,0,C⟩))/\ah w.1.size w w'/\ah V.1.size V w':=λV a=>by have c:=c.below a;have e:V.cell? ⟨b,3,C⟩=E (G J (j:Int)):=(a.cell (p:=⟨b,3,C⟩) f).trans e;exact(U9 c.cS.1 c.sl e (ap f a.4) k (λU d=>(WZ (c.5.below d) hk g).mono (λr w' q=>⟨q.1,Ab d d.4 q.2⟩))).mono (λr w' q=>⟨q.1,Ab a a.4 q.2,q.2⟩)
theorem DMx.no53(a:DMx S M K t W n s nms T w)(e:b<w.1.size){k:Int}(d:w.cell? ⟨b,3,C⟩=E (G J k))(g:2<=m)(hk:Cv s.1.length k=aB):∀V,ah w.1.size w V->am ac 53 #[aa (E ⟨S,0,C⟩),aq (E ⟨b,0,C⟩) m cp] V λr w'=>r=Bl 2/\ah w.1.size w w':=λV c=>by have a:=a.below c;have d:V.cell? ⟨b,3,C⟩=E (G J k):=(c.cell (p:=⟨b,3,C⟩) e).trans d;exact(U8 a.cS.1 a.sl d (ap e c.4) g a.lay (λU f=>OO (a.5.below f) hk)).mono (λr w' q=>⟨q.1,Ab c c.4 q.2⟩)
end
end
section
variable{n k:Nat}{h:HW}
theorem Ea{Hs:List Nat}(hk:(Hs.mapIdx Dw)[k]?=E h):∃H,h=Dw k H:=by
 rw[aF]at hk;cases e:Hs[k]? with
 |none=>rw[e]at hk;cases hk
 |some H=>rw[e]at hk;exact⟨H,(Option.some.inj hk).symm⟩
theorem WI.start{Hs:List Nat}(c:1<=n)(r:n<=4)(v:Hs.length=n):WI (λ_=>[]) n 0 ⟨Hs.mapIdx Dw,[],0⟩ []:=by
 have f:∀(k:Nat) (h:HW),(Hs.mapIdx Dw)[k]?=E h->k<n:=λk h hk=>by have:=(aM.1 hk).1;rw[aS]at this;omega
 have b:∀(k:Nat) (h:HW) m,(Hs.mapIdx Dw)[k]?=E h->¬C9 h m:=λk h m hk q=>by obtain⟨H,rfl⟩:=Ea hk;obtain⟨u,x⟩:=q;cases x
 have l:∀(k:Nat) (h:HW) j m,(Hs.mapIdx Dw)[k]?=E h->¬Cq ⟨Hs.mapIdx Dw,[],0⟩ k h j m:=λk h j m hk q=>by obtain⟨H,rfl⟩:=Ea hk;cases q.2.1
 refine⟨⟨c,r⟩,⟨?_,aU,λm=>?_,λk h k' o m m' a _ d=>absurd d (b k h m a),λk h k' o j m m' a _ d=>absurd d (b k h m a),λk h _ m e=>(by cases e),λk h j g _ a d=>?_,λk h j a _=>?_,λq hq=>(by cases hq)⟩,⟨λ_=>0,ag _,λk h hk=>?_⟩,λk h hk u _ m e t w=>(by cases w),λk h hk u=>?_,λk h hk=>?_,aJ _,⟨aW _,aW _⟩⟩
 ·show(Hs.mapIdx Dw).length=n;rw[aS];exact v
 ·constructor
  ·intro e;cases e
  ·rintro(⟨k,h,a,c⟩|⟨k,h,j,a,c⟩)
   ·exact absurd c (b k h m a)
   ·exact absurd c (l k h j m a)
 ·obtain⟨H,rfl⟩:=Ea a;obtain⟨y,rfl⟩:=Ea d;exact⟨aW _,by show(0:Int)<=0+1;omega,λ_=>rfl⟩
 ·obtain⟨H,rfl⟩:=Ea a;rfl
 ·have:=f k h hk;obtain⟨H,rfl⟩:=Ea hk;exact⟨0,MV O H,by show(0:Int)<=0+(0+0+0+0);omega⟩
 ·obtain⟨H,rfl⟩:=Ea hk;exact List.nodup_nil
 ·obtain⟨H,rfl⟩:=Ea hk;rfl
end
theorem ZA(Hs:List Nat):(⟨Hs.mapIdx Dw,[],0⟩:WSt).z=Db Hs.length:=by
 unfold WSt.z Db;congr 1;refine List.ext_getElem? (λk=>?_);rw[aw,aF,aF,List.getElem?_replicate];by_cases hk:k<Hs.length
 ·rw[ay hk,if_pos hk];rfl
 ·rw[aQ O,if_neg hk];rfl
section
variable{h:HW}{k i p:Nat}
theorem JW(A:ByteArray->List Pl)(ks:List ByteArray):AW A ks=AW A (ks.filter λs=>!(A s).isEmpty):=by
 induction ks with
 |nil=>rfl
 |cons s r ih=>
  have e:∀l:List ByteArray,AW A (s::l)=Ao Pl.kept (AA (A s))++AW A l:=λl=>by simp[AW]
  rw[e,List.filter_cons];cases hs:A s with
  |nil=>rw[if_neg oS,<-ih];rfl
  |cons x l=>rw[if_pos oS,e,<-ih,hs]
theorem Vr{A:ByteArray->List Pl}{ks c:List ByteArray}(d:D2 A ks)(f:D2 A c):AW A ks=AW A c:=by
 have g:∀{l:List ByteArray},D2 A l->(l.filter λs=>!(A s).isEmpty).Pairwise λa b=>a.1.1<=b.1.1:=λ{l} h=>by have:=List.pairwise_map.1 h.3;exact(aE _ this).imp (λ{a b} q=>by simpa using q)
 have me:∀{l:List ByteArray},D2 A l->∀s,s∈(l.filter λs=>!(A s).isEmpty)↔A s≠[]:=λ{l} h s=>by
  rw[aP];constructor
  ·rintro⟨-,q⟩ e;rw[e]at q;simp at q
  ·intro q;refine⟨bb λj=>q (h.2 s j),?_⟩;cases e:A s with
   |nil=>exact absurd e q
   |cons x l=>rfl
 rw[JW A ks,JW A c];congr 1;refine FI (λa b m o=>ByteArray.ext (Array.toList_inj.1 (List.le_antisymm m o))) (g d) (g f) ?_;exact(List.perm_ext_iff_of_nodup (aE _ d.1) (aE _ f.1)).2 (λs=>(me d s).trans (me f s).symm)
theorem Vp{ks:List ByteArray}(hk:D2 (λt=>h.1.Q (.inl t)) ks):FY (F,Y) h.z=AW (λt=>h.1.Q (.inl t)) ks:=Rw ⟨ks,hk,rfl⟩ (λy ⟨c,a,b⟩=>by rw[b];exact Vr a hk)
theorem JV(b:HOk h k i p){ks:List ByteArray}{m:Mg}(a:m∈AW (λt=>h.1.Q (.inl t)) ks):right m=aN:=by unfold AW at a;obtain⟨s,-,c⟩:=aX.1 a;exact GV (b.1.q.1 _) c
end
section
variable{nms:Nat->List Nm}{n t:Nat}{s:WSt}{T:List Mg}
theorem ZI(s:WSt)(k j:Nat):BX s.z k j=BX s k j:=by unfold BX;show(match(s.1.map HW.z)[j]? with|some h=>_|none=>_)=_;rw[aw];cases s.1[j]?<;>rfl
theorem Rz(s:WSt)(k:Nat)(rs:DZ)(n:Nat):Dz s.z k rs n=Dz s k rs n:=by unfold Dz;simp only[ZI]
theorem Q6{l:List Mg}:LedN s.z n l↔LedN s n l:=by
 unfold LedN Uc;constructor
 ·rintro⟨e,b,c,d⟩;refine⟨e,b,c,λk h x hk hx=>?_⟩;obtain⟨ks,f,a⟩:=d k h.z x (KH hk) hx;exact⟨ks,f,by rw[Rz]at a;exact a⟩
 ·rintro⟨e,b,c,d⟩;refine⟨e,b,c,λk h x hk hx=>?_⟩;obtain⟨g,j,rfl⟩:=Q2a hk;obtain⟨ks,f,a⟩:=d k g x j hx;exact⟨ks,f,by rw[Rz];exact a⟩
theorem Yn(c:WI nms n t s T){Z l:List Mg}(g:Df Z)(f:Z.Perm l)(d:LedN s n l):I6 (F,Y) s.z=Z:=by have e:s.z.1.length=n:=(RN s).trans c.2.1;unfold I6;rw[e];refine Rw ⟨l,g,f,Q6.2 d⟩ (λA ⟨w,q,u,v⟩=>?_);obtain⟨j,a2⟩:=JX c d g f;obtain⟨m,o⟩:=JX c (Q6.1 v) q u;exact FI (r:=λa b:Mg=>a.1<b.1) (λa b x y=>O) o a2 (m.trans j.symm)
theorem PN(e:WI nms n t s T){l:List Mg}(w:LedN s n l):l.length<=40000/\∀m∈l,right m=aN:=by
 obtain⟨g,rfl,o,u⟩:=w;have a:∀x∈g,x.length<=10000/\∀m∈x,right m=aN:=λx hx=>by
  obtain⟨k,hk⟩:=List.mem_iff_getElem?.1 hx;have v:=(aM.1 hk).1;obtain⟨h,f⟩:=e.get (j:=k) O;obtain⟨i,p,d⟩:=e.allOk k h f;obtain⟨ks,A,rfl⟩:=u k h x f hk;have l1:=JU d A;have H:=TG s d (k':=k) 4;refine⟨by rw[an];omega,λm b=>?_⟩;rcases List.mem_append.1 b with b|b
  ·exact JV d b
  ·unfold Dz at b;obtain⟨j,-,c⟩:=aX.1 b;unfold Lw at c;split at c
   ·unfold Xo at c;exact GV (d.1.q.1 _) (aP.1 c).1
   ·cases c
 have D:=e.1;constructor
 ·have:∀l:List (List Mg),(∀x∈l,x.length<=10000)->l.flatten.length<=10000*l.length:=λl=>by
   induction l with
   |nil=>intro _;simp
   |cons x r ih=>intro h;have B:=h x oS;have o:=ih (λy z=>h y (by simp[z]));rw[List.flatten_cons,an,List.length_cons];omega
  have:=this g (λx hx=>(a x hx).1);omega
 ·intro m b;obtain⟨x,hx,c⟩:=List.mem_flatten.1 b;exact(a x hx).2 m c
end
end
end Go.Proofs.YtkkallehdijiaaaGreatDoor
