import Derived.Test.YtkkallehdijiaaaGreatDoorZHpWd
import Derived.Maps.AppendAt
set_option linter.all false
set_option maxHeartbeats 0
set_option maxRecDepth 99999
open Array renaming getElem?_setIfInBounds->F,getElem?_eq_some_iff->ab
open Go.Value renaming string->Z,int->G,slice->E,ownBlock->aj,pointer->ay,iface->aD
open Option renaming none->I,some->C
open Go.IntKind renaming i64->J
open And renaming intro->Y
open Go.RowKit.Below renaming heap_setCell->T,refl->al
open Or renaming inr->aa,inl->ag
open Go.RowKit renaming Below->ac
open Go.Ending renaming returned->ad
open Nat renaming le_trans->ae,le_refl->an,lt_of_lt_of_le->ax
open Go renaming Value->af,World->ai,wpList_append_own_at->aC,Calls->aJ
open Bool renaming true->ah,false->aF,and_eq_true->aH
open Go.World renaming ownsRow_nil->ak,frozen?_of_block->aA,cell?_of_block->aB,setCell->aK
open List renaming length_filter_le->am,mem_filter->ar,length_eq_zero_iff->az,length_append->aE,length_take->aI
open Go.Proofs.Tryz renaming prog->ao,underlying99->aG
open Go.Obj renaming cells->au
open Go.ByteArray renaming toList_eq->av
namespace Go.Proofs.YtkkallehdijiaaaGreatDoor
section
open Go.RowKit Go.Maps
def CO(id:Int)(ms:List Mg):List Mg:=ms.filter λm=>decide (m.5=id)
def DN(id:Int)(ms:List Mg):List Mg:=ms.filter λm=>!decide (m.5=id)
theorem Mv(id:Int)(ms:List Mg):(CO id ms).length<=ms.length:=am _ _
theorem Mw(id:Int)(ms:List Mg):(DN id ms).length<=ms.length:=am _ _
theorem XD(id:Int)(ms:List Mg)(m:Mg)(h:m.5=id):CO id (ms++[m])=CO id ms++[m]:=by simp[CO,h]
theorem XF(id:Int)(ms:List Mg)(m:Mg)(h:m.5=id):DN id (ms++[m])=DN id ms:=by simp[DN,h]
theorem XC(id:Int)(ms:List Mg)(m:Mg)(h:m.5≠id):CO id (ms++[m])=CO id ms:=by simp[CO,h]
theorem XE(id:Int)(ms:List Mg)(m:Mg)(h:m.5≠id):DN id (ms++[m])=DN id ms++[m]:=by simp[DN,h]
def Ht(id:Int)(ids:List Int)(ms:List Mg):Ch:=⟨2,⟨⟨#[]⟩,⟨#[]⟩,0⟩,0,ids,CO id ms,[],DN id ms⟩
theorem ZQ{id:Int}{ids:List Int}{ms:List Mg}(c:∀z∈ids,0<=z/\z<=1099511627776)(d:ids.length<=3000)(a:∀m∈ms,right m=ah)(b:ms.length<=3000):(Ht id ids ms).ok where
 okKind:=⟨by simp[Ht],by simp[Ht]⟩
 okName:=by simp[Ht]
 okTo:=by simp[Ht]
 sz:=⟨by simp[Ht,ByteArray.size],by simp[Ht,ByteArray.size]⟩
 nh:=⟨by simp[Ht],by simp[Ht]⟩
 okHouse:=⟨by simp[Ht],by simp[Ht]⟩
 okIds:=c
 few:=⟨d,ae (Mv _ _) b,by simp[Ht],ae (Mw _ _) b⟩
 okAll:=⟨λm h=>a m (ar.1 h).1,by simp[Ht],λm h=>a m (ar.1 h).1⟩
structure CmL(w:ai)(X:Nat)(ids a b:af)(qs ws:List Mg)(W:ai):Prop where
 box:Blk W X #[G J 2,Z ⟨#[]⟩,Z ⟨#[]⟩,G J 0,G J 0,ids,a,E I 0 0,b] 142
 oq:W.ownsRow (X+1) 95 5 a qs.length (AL qs)
 ow:W.ownsRow (X+1) 95 5 b ws.length (AL ws)
 ne:∀c,a.ownBlock=C c->b.ownBlock≠C c
 bel:ac w.1.size w W
 le:w.1.size<=X
theorem CmL.lt{w W:ai}{X:Nat}{ids a b:af}{qs ws:List Mg}(h:CmL w X ids a b qs ws W):X<W.1.size:=(ab.1 h.1).1
theorem CmL.on{w W b:ai}{X:Nat}{ids c d:af}{qs ws:List Mg}(h:CmL w X ids c d qs ws W)(a:ac W.1.size W b):CmL w X ids c d qs ws b:=⟨h.1.after a,Ce h.2 a,Ce h.3 a,h.4,Ab h.5 h.5.4 a,h.6⟩
theorem CU{w:ai}{B e z n:Nat}{v:af}{xs:List af}(h:w.ownsRow B e z v n xs){c:Nat}(a:v.ownBlock=C c):B<=c/\c<w.1.size:=h.lt c a
theorem CmL.queued{w W d:ai}{X:Nat}{ids j n b:af}{qs ws:List Mg}{m:Mg}(h:CmL w X ids j n qs ws W)(o:d.ownsRow (X+1) 95 5 b (qs.length+1) (AL qs++mc m))(f:W.grownBy d j.ownBlock)(g:b.ownBlock=j.ownBlock\/b.ownBlock=C W.1.size):CmL w X ids b n (qs++[m]) ws (d.setCell ⟨X,6,I⟩ b):=by
 have l:d.1[X]?=W.1[X]?:=f.5 X h.lt (λe=>by have:=(CU h.2 e.symm).1;omega);have i:Blk d X #[G J 2,Z ⟨#[]⟩,Z ⟨#[]⟩,G J 0,G J 0,ids,j,E I 0 0,n] 142:=l.trans h.1;refine⟨i.n6 b,?_,An (An h.3 (λc a=>f.5 c (CU h.3 a).2 (λe=>h.4 c e.symm a))) (λc a=>T d ⟨X,6,I⟩ b c (by show c≠X;have:=(CU h.3 a).1;omega)),λc a p=>?_,?_,h.6⟩
 ·rw[Ey,aE];exact An o (λc a=>T d ⟨X,6,I⟩ b c (by show c≠X;have:=(CU o a).1;omega))
 ·rcases g with g|g
  ·exact h.4 c (g▸a) p
  ·rw[a]at g;have:=(CU h.3 p).2;have:=Option.some.inj g;omega
 ·refine⟨f.1.trans h.5.1,f.2.trans h.5.2,f.3.trans h.5.3,by simpa[aK]using ae h.5.4 f.4,λk hk=>?_⟩;rw[T d ⟨X,6,I⟩ b k (by show k≠X;have:=h.6;omega)];exact(f.5 k (by have:=h.lt;have:=h.6;omega) (λe=>by have:=h.6;have:=(CU h.2 e.symm).1;omega)).trans (h.5.5 k hk)
theorem CmL.waits{w W d:ai}{X:Nat}{ids n j b:af}{qs ws:List Mg}{m:Mg}(h:CmL w X ids n j qs ws W)(o:d.ownsRow (X+1) 95 5 b (ws.length+1) (AL ws++mc m))(f:W.grownBy d j.ownBlock)(g:b.ownBlock=j.ownBlock\/b.ownBlock=C W.1.size):CmL w X ids n b qs (ws++[m]) (d.setCell ⟨X,8,I⟩ b):=by
 have l:d.1[X]?=W.1[X]?:=f.5 X h.lt (λe=>by have:=(CU h.3 e.symm).1;omega);have i:Blk d X #[G J 2,Z ⟨#[]⟩,Z ⟨#[]⟩,G J 0,G J 0,ids,n,E I 0 0,j] 142:=l.trans h.1;refine⟨i.n8 b,An (An h.2 (λc a=>f.5 c (CU h.2 a).2 (λe=>h.4 c a e.symm))) (λc a=>T d ⟨X,8,I⟩ b c (by show c≠X;have:=(CU h.2 a).1;omega)),?_,λc a p=>?_,?_,h.6⟩
 ·rw[Ey,aE];exact An o (λc a=>T d ⟨X,8,I⟩ b c (by show c≠X;have:=(CU o a).1;omega))
 ·rcases g with g|g
  ·exact h.4 c a (g▸p)
  ·rw[p]at g;have:=(CU h.2 a).2;have:=Option.some.inj g;omega
 ·refine⟨f.1.trans h.5.1,f.2.trans h.5.2,f.3.trans h.5.3,by simpa[aK]using ae h.5.4 f.4,λk hk=>?_⟩;rw[T d ⟨X,8,I⟩ b k (by show k≠X;have:=h.6;omega)];exact(f.5 k (by have:=h.lt;have:=h.6;omega) (λe=>by have:=h.6;have:=(CU h.3 e.symm).1;omega)).trans (h.5.5 k hk)
theorem Un.none{w:ai}{cs cs':Array af}{pu:Nat->List Mg}{tk:Nat->List Int}{up ut:Nat->af}(h:Un w cs pu tk up ut){u:Nat}(f:cs'[68+u*2]?=C (E I 0 0))(g:cs'[68+u*2+1]?=C (E I 0 0))(hk:∀k,68<=k->k<78->k≠68+u*2->k≠68+u*2+1->cs'[k]?=cs[k]?):Un w cs' (Ae pu u []) (Ae tk u []) (Ae up u (E I 0 0)) (Ae ut u (E I 0 0)):=by
 refine⟨λv hv=>?_,λv hv=>?_,λv hv=>?_,λv hv=>?_,λv x c hv hx b a=>?_,λv x c hv hx b a=>?_⟩
 ·by_cases e:v=u
  ·subst e;rw[Ad];exact f
  ·rw[Ac _ _ e];exact(hk _ O O O O).trans (h.1 v hv)
 ·by_cases e:v=u
  ·subst e;rw[Ad];exact g
  ·rw[Ac _ _ e];exact(hk _ O O O O).trans (h.2 v hv)
 ·by_cases e:v=u
  ·subst e;rw[Ad,Ad];exact ak _ _ _ _
  ·rw[Ac _ _ e,Ac _ _ e];exact h.3 v hv
 ·by_cases e:v=u
  ·subst e;rw[Ad,Ad];exact ak _ _ _ _
  ·rw[Ac _ _ e,Ac _ _ e];exact h.4 v hv
 ·by_cases e:v=u
  ·subst e;rw[Ad]at a;simp[aj]at a
  ·rw[Ac _ _ e]at a;by_cases d:x=u
   ·subst d;rw[Ad];simp[aj]
   ·rw[Ac _ _ d];exact h.5 v x c hv hx b a
 ·by_cases e:v=u
  ·subst e;rw[Ad]at a;simp[aj]at a
  ·rw[Ac _ _ e]at a;by_cases d:x=u
   ·subst d;rw[Ad];simp[aj]
   ·rw[Ac _ _ d];exact h.6 v x c hv hx b a
theorem Hs.freshTD{w0 w:ai}{a:Nat->Prop}{H M:Nat}{cs:Array af}{A:ByteArray->List Pl}{B:Nat->List Pl}{N:Nat}(h:Hs w0 a H M cs A B N w):∃P1:Nat->Prop,Ev w0 w a P1/\(∀k,P1 k->k<w.1.size)/\(∀k c t,w.1[k]?=C (au c t (0,0))->t≠135->t≠208->t≠140->¬P1 k)/\P1 H/\(∀D d,DB w D d->¬P1 D.b)/\∀W,ac w.1.size w W->Hs W P1 H M cs A B N W:=by obtain⟨P1,g1,g2,g3,g4,e⟩:=h.freshT;exact⟨P1,g1,g2,g3,g4,λD d f=>g3 D.b _ 77 f.1 oD oD oD,e⟩
def Q0T(w:ai)(P:Nat->Prop)(H M:Nat)(D:DP)(k:Nat)(cs:Array af)(A:ByteArray->List Pl)(B:Nat->List Pl)(N:Nat)(pu:Nat->List Mg)(tk:Nat->List Int)(up ut:Nat->af)(u:Nat)(id cnt:Int)(d:Dk)(torn:Int)(down:Bool)(e:Ending)(w':ai):Prop:=((pu u=[]/\tk u=[])/\e=ad (aD 25 (G J 8))/\Hs w P H M cs A B N w'/\Un w' cs pu tk up ut/\DB w' D d)\/(¬(pu u=[]/\tk u=[])/\down=ah/\e=ad (aD 25 (G J 6))/\Hs w P H M cs A B N w'/\Un w' cs pu tk up ut/\DB w' D d)\/(¬(pu u=[]/\tk u=[])/\down=aF/\k=300/\e=ad (aD 25 (G J 4))/\Hs w P H M cs A B N w'/\Un w' cs pu tk up ut/\DB w' D d)\/(¬(pu u=[]/\tk u=[])/\down=aF/\k<300/\∃b d',Ui d d' k (bs (Ht id (tk u) (pu u)).text) torn b/\DB w' D d'/\((b=aF/\e=ad (aD 25 (G J 14))/\Hs w P H M (cs.setIfInBounds 4 (.bool ah)) A B N w'/\Un w' (cs.setIfInBounds 4 (.bool ah)) pu tk up ut)\/(b=ah/\e=ad .nilIface/\∃cs',Hs w P H M cs' (Aq (λs=>Ah (tk u) (AK u ah (A s))) (CO id (pu u))) (AI (λj=>AK u ah (B j)) (DN id (pu u))) (N+(CO id (pu u)).length) w'/\Un w' cs' (Ae pu u []) (Ae tk u []) (Ae up u (E I 0 0)) (Ae ut u (E I 0 0))/\cs'[2]?=C (G J ((k:Int)+1))/\cs'[5]?=C (G J (AB (AB cnt (CO id (pu u))) (DN id (pu u))))/\∀j,(j<78\/¬(j-78)%4=0)->j≠2->j≠5->j≠68+u*2->j≠68+u*2+1->cs'[j]?=cs[j]?)))
theorem Gx(u:Int)(b:Bool)(A:List Pl):(AK u b A).length<=A.length:=by
 unfold AK;split
 ·exact an _
 ·rw[List.length_map];exact am _ _
theorem NT(H M:Nat)(D:DP)(k:Nat)(cs:Array af)(A:ByteArray->List Pl)(B:Nat->List Pl)(N:Nat)(P:Nat->Prop)(pu:Nat->List Mg)(tk:Nat->List Int)(up ut:Nat->af)(u:Nat)(id cnt:Int)(d:Dk)(torn:Int)(down:Bool)(w:ai)(h:Hs w P H M cs A B N w)(hU:Un w cs pu tk up ut)(n2:P D.b)(hw:O1 cs D k torn down)(h0:cs[0]?=C (G J id))(h5:cs[5]?=C (G J cnt))(hD:DB w D d)(hk:FN d k)(hL:Lay w)(hu:u<5)(d9:∀s,(A s).length+(pu u).length<=3000)(c3:∀j,(B j).length+(pu u).length<=3000)(ht:(tk u).length<=3000)(hr:∀m∈pu u,right m=ah)(hi:∀z∈tk u,0<=z/\z<=1099511627776)(hN:N+(pu u).length<1000000):aJ ao 56 #[ay (C ⟨H,0,I⟩),G J (u:Int)] w (Q0T w P H M D k cs A B N pu tk up ut u id cnt d torn down):=by
 have hp:(pu u).length<=3000:=by have:=c3 0;omega
 have t1:=h.size;obtain⟨P1,m8,d6,n6,n3,r6,n9⟩:=h.freshTD;have d5:H<w.1.size:=d6 H n3;have r4:D.b<w.1.size:=hD.lt;have sub:∀k,P1 k->P k:=λk hk=>(m8.2 k hk).elim (λy=>y) (λy=>by have:=d6 k hk;omega);have i3:∀k,Cu up ut k->¬(P1 k\/k=D.b):=λk hk=>by
  obtain⟨c,t,hc,ht⟩:=hU.cells hk;rintro(hp|rfl)
  ·exact n6 k c t hc (by rcases ht with rfl|rfl<;>decide) (by rcases ht with rfl|rfl<;>decide) (by rcases ht with rfl|rfl<;>decide) hp
  ·have:=hD.1;unfold Blk at this;rw[hc]at this;injection this with this;injection this with _ this;rcases ht with rfl|rfl<;>cases this
 obtain⟨ap,kp,j1⟩:=Ar (hU.3 u hu);obtain⟨v,kt,b4⟩:=Ar (hU.4 u hu);have o8:=hU.3 u hu;have i9:=hU.4 u hu;have a4:=(h.cell (68+u*2)).trans ((hU.1 u hu).trans (by rw[j1]));have a6:=(h.cell (68+u*2+1)).trans ((hU.2 u hu).trans (by rw[b4]));have c0:=(h.cell 0).trans h0;have i1:Msgs w.1.size w ap (pu u):=Cz (j1▸o8);have i2:Nums w.1.size w v (tk u):=GJ (b4▸i9);have n0:∀b o,v=C ⟨b,o,I⟩->Cu up ut b:=λb o e=>⟨u,hu,aa (by
  rw[b4,e];rcases i9.2 with⟨hz,-⟩|⟨g,l7,cur,hz,-⟩
  ·rw[b4,e]at hz;cases hz
  ·rw[b4,e]at hz;cases hz;rfl)⟩;obtain⟨ms,S⟩:∃ms,Hid (pu u=ms):=⟨_,rfl⟩;obtain⟨ids,l⟩:∃ids,Hid (tk u=ids):=⟨_,rfl⟩;obtain⟨np,a1⟩:∃n,Hid (ms.length=n):=⟨_,rfl⟩;obtain⟨nt,b2⟩:∃n,Hid (ids.length=n):=⟨_,rfl⟩;have p2:∀m∈CO id ms,right m=ah:=λm hm=>hr m (by rw[S.o];exact(ar.1 hm).1);have p4:∀m∈DN id ms,right m=ah:=λm hm=>hr m (by rw[S.o];exact(ar.1 hm).1);have o7:(Ht id ids ms).ok:=ZQ (λz hz=>hi z (by rw[l.o];exact hz)) (by rw[<-l.o];exact ht) (λm hm=>hr m (by rw[S.o];exact hm)) (by rw[<-S.o];exact hp);rw[S.o]at hp d9 c3 hN i1 a4;rw[l.o]at ht i2 a6;rw[a1.o]at hp d9 c3 hN a4;rw[b2.o]at ht a6;have q5:=Aa i1;have q8:=Aa i2;have h7:=Aa n0;have l2:=Aa i3;have r1:=Aa p2;have r2:=Aa p4;have HOk:=Aa o7;have l5:=Aa d9;have l6:=Aa c3;have l3:Hid (∀k,Cu up ut k->k<w.1.size):=Aa (λk hk=>hU.lt hk);have b7:Hid (∀W,Only w W (λk=>P1 k\/k=D.b)->Un W cs pu tk up ut):=Aa (λW hO=>hU.kept hO i3);have k7:Hid (∀W,ac w.1.size w W->Hs W (λk=>P1 k\/k=D.b) H M cs A B N W/\DB W D d/\Lay W/\Ev w W P (λk=>P1 k\/k=D.b)):=Aa (λW hB=>⟨(n9 W hB).more (λk hk=>ag hk),hD.below hB,hL.below hB,⟨Only.of_below hB,λk hk=>ag (hk.elim (sub k) (λe=>e▸n2))⟩⟩);have j6:Hid (∀W,ac w.1.size w W->W.cell? ⟨H,0,I⟩=C (G J id)/\W.cell? ⟨H,68+u*2,I⟩=C (E ap np kp)/\W.cell? ⟨H,68+u*2+1,I⟩=C (E v nt kt)):=Aa (λW hB=>⟨(hB.cell (p:=⟨H,0,I⟩) d5).trans c0,(hB.cell (p:=⟨H,68+u*2,I⟩) d5).trans a4,(hB.cell (p:=⟨H,68+u*2+1,I⟩) d5).trans a6⟩);have d0:Hid (∀k,(P1 k\/k=D.b)->k<w.1.size):=Aa (λk hk=>hk.elim (d6 k) (λe=>e▸r4));have c7:=Aa (Fh ap v np nt kp kt w);have j9:Hid (∀W,aJ ao 98 #[G J (u:Int)] W λe w'=>e=ad (.bool ah)/\W=w'):=Lib.hid (λW=>by have h1:=C0 (u:Int) W;rw[show(decide (0<=(u:Int))&&decide ((u:Int)<5))=ah by simp;omega]at h1;exact h1.mono (λe w' h=>⟨h.1,h.2.symm⟩));have k4:=Aa hw;have p7:=Aa hk;have H5:=Aa h5;have t3:(u:Int)<5:=O;have t2:(0:Int)<=(u:Int):=O;obtain⟨j0,hj,o3,o4,o5⟩:=Aw F8;have HJ:=Aa hj;have k0:=Aa o3;have k1:=Aa o4;have k2:=Aa o5;clear h hU n2 hw h0 h5 hD hk hL hr hi m8 d6 n6 n3 r6 n9 sub i3 o8 i9 i1 i2 n0 p2 p4 o7 hj o3 o4 o5 j1 b4 d9 c3;go_enter Tryz.func56,Tryz.ntmps56;go_wp2_with(go_at_call 98;go_must(refine(j9.o _).mono ?_);rintro e w1 ⟨rfl,rfl⟩;refine Hid.out ?_);refine Aa ?_;go_wp2_with(go_at_call 99;go_must(refine c7.o.mono ?_);rintro e L ⟨rfl,b3⟩;refine Hid.out ?_);refine Aa ?_;have j3:=Aa b3;clear c7 j9 c0 a4 a6;by_cases hz:np=0/\nt=0
 ·obtain⟨rfl,rfl⟩:=hz;go_wp2;go_ret;obtain⟨g1,g2,g3,g4⟩:=k7.o L j3.o;refine ag ⟨⟨?_,?_⟩,rfl,g1.anchor g4,b7.o L (Only.of_below j3.o),g2⟩
  ·rw[S.o];exact az.1 a1.o
  ·rw[l.o];exact az.1 b2.o
 have HZ:Hid (¬(pu u=[]/\tk u=[])):=Aa (λ⟨e1,e2⟩=>hz ⟨by rw[<-a1.o,<-S.o,e1];rfl,by rw[<-b2.o,<-l.o,e2];rfl⟩);have p6:((np:Int)==0&&(nt:Int)==0)=aF:=by rw[Bool.and_eq_false_iff,beq_eq_false_iff_ne,beq_eq_false_iff_ne];omega
 rw[p6];clear hz p6;obtain⟨c0,a4,a6⟩:=j6.o L b3;have r9:w.1.size<=L.1.size:=b3.4;have t0:H<L.1.size:=ax d5 r9;have m6:CmL w L.1.size (E v nt kt) (E I 0 0) (E I 0 0) (CO id (ms.take 0)) (DN id (ms.take 0)) (L.alloc (au #[G J 2,Z ⟨#[]⟩,Z ⟨#[]⟩,G J 0,G J 0,E v nt kt,E I 0 0,E I 0 0,E I 0 0] 142)):=⟨Blk.new L _ 142,ak _ _ _ _,ak _ _ _ _,λc hc=>by simp[aj]at hc,b3.alloc b3.4 _,b3.4⟩;have j5:=Aa m6;clear m6;go_wp2;go_loopw[37] (λi wr=>∃j:Nat,j<=np/\i=G J j/\Hid (∃vq vw,CmL w L.1.size (E v nt kt) vq vw (CO id (ms.take j)) (DN id (ms.take j)) wr)) (λi _=>np-(intOf i).toNat);case atStart=>exact⟨0,Nat.zero_le _,rfl,Aa ⟨_,_,j5.o⟩⟩
 case round=>
  clear j5;obtain⟨j,hj,rfl,hR⟩:=hrel;obtain⟨vq,vw,hC⟩:=hR.o;have x:=hC.5;by_cases s2:j<np
  ·obtain⟨m,i5⟩:∃m,ms[j]?=C m:=⟨_,List.getElem?_eq_getElem (by rw[a1.o];exact s2)⟩;obtain⟨b,o,rfl,c2,m0,m1,m2,m3,m4⟩:=q5.o j m i5;have q0:=(x.cell (p:=⟨b,o+j*5,I⟩) c2).trans m0;have q1:=(x.cell (p:=⟨b,o+j*5+1,I⟩) c2).trans m1;have q2:=(x.cell (p:=⟨b,o+j*5+2,I⟩) c2).trans m2;have q3:=(x.cell (p:=⟨b,o+j*5+3,I⟩) c2).trans m3;have q4:=(x.cell (p:=⟨b,o+j*5+4,I⟩) c2).trans m4;have l1:=Aa (Dc ms j m i5);obtain⟨aq,kq,rfl⟩:=Ar hC.2;obtain⟨aw,kw,rfl⟩:=Ar hC.3;obtain⟨lq,r⟩:∃n,Hid ((CO id (ms.take j)).length=n):=⟨_,rfl⟩;obtain⟨lw,R⟩:∃n,Hid ((DN id (ms.take j)).length=n):=⟨_,rfl⟩;have s1:lq<=3000:=by
    have:=Mv id (ms.take j);have:=r.o;have e3:(ms.take j).length<=ms.length:=by rw[aI];omega
    have:=a1.o;omega
   have s3:lw<=3000:=by
    have:=Mw id (ms.take j);have:=R.o;have e3:(ms.take j).length<=ms.length:=by rw[aI];omega
    have:=a1.o;omega
   rw[r.o,R.o]at hC;obtain⟨W3,d7⟩:∃W3,wr.alloc (au #[G J m.1,G J m.2,Z m.3,Z m.4,G J m.5] 95)=W3:=⟨_,rfl⟩;have m5:ac wr.1.size wr W3:=by rw[<-d7];exact(al _ _).alloc (an _) _
   have i0:MB W3 wr.1.size m:=by rw[<-d7];exact heap_alloc_new wr _
   have h8:=hC.on m5;have c9:=Aa i0;have c6:=Aa h8;have p1:=i0.cells.2.2.2.2;have c0:=(j6.o W3 h8.5).1;clear m0 m1 m2 m3 m4 i5 hC x m5 i0 h8 hR a4 a6;by_cases he:m.5=id
   ·have s0:(m.5==id)=ah:=by simpa using he
    have He:=Aa he;clear he;go_wp2_with fail;go_quiet(fail);have a3:=c6.o.on (AV W3 nq);have a7:=c9.o.below (AV W3 nq);generalize W3.drewN nq=V at a3 a7⊢;obtain⟨⟨e0,e1,e2,e3,e4,e5,e6,e7,e8⟩,g0,g1,g2,g3,g4,g5,g6,g7,g8⟩:=a3.1.nine;obtain⟨y0,y1,y2,y3,y4⟩:=a7.cells;have b9:ac V.1.size V (V.alloc (au #[G J m.1,G J m.2,Z m.3,Z m.4,G J m.5] 95)):=(al _ _).alloc (an _) _;have a2:=a3.on b9;have a0:=Aa a2.2;have Q:=Aa a2;have i4:L.1.size+1<=(V.alloc (au #[G J m.1,G J m.2,Z m.3,Z m.4,G J m.5] 95)).1.size:=a2.lt;have b8:=Aa (ES (w:=V) m);rw[r.o]at a0;clear a3 a7 b9 a2 c6 c9 q0 q1 q2 q3 q4 p1 c0 d7;go_wp2_with(at_builtin;go_must(refine aC _ rfl _ _ 99 rfl (L.1.size+1) 95 j0 _ 5 56 aG HJ.o k0.o k1.o k2.o rfl oD (E aq lq kq) lq _ rfl a0.o ⟨V.1.size,0,I⟩ 1 1 (mc m) rfl rfl b8.o (Ek _) (by unfold maxLen;omega) O i4 ?_));intro v5 w5 f a9 _ c1;obtain⟨a5,k5,rfl⟩:=Ar f;have a8:w5.1[L.1.size]?=(V.alloc (au #[G J m.1,G J m.2,Z m.3,Z m.4,G J m.5] 95)).1[L.1.size]?:=a9.5 _ Q.o.lt (λe=>by have:=(CU a0.o e.symm).1;omega);have x6:=(aB (a:=⟨L.1.size,6,I⟩) a8).trans Q.o.1.nine.1.2.2.2.2.2.2.1;have s8:=(aA (a:=⟨L.1.size,6,I⟩) a8).trans Q.o.1.nine.2.2.2.2.2.2.2.1;have g9:=Aa (Q.o.queued (by rw[r.o];exact f) a9 (c1.imp (λy=>y) (λy=>y.trans oS)));clear f a9 c1 a8 a0 Q b8;go_wp2;go_roundw;case rel=>exact⟨j+1,O,by go_num,Aa ⟨_,_,by rw[l1.o,XD _ _ _ He.o,XF _ _ _ He.o];exact g9.o⟩⟩
    case measure=>simp[intOf];omega
   ·have s0:(m.5==id)=aF:=by simpa using he
    have He:=Aa he;clear he;go_wp2_with fail;go_quiet(fail);have a3:=c6.o.on (AV W3 nq);have a7:=c9.o.below (AV W3 nq);generalize W3.drewN nq=V at a3 a7⊢;obtain⟨⟨e0,e1,e2,e3,e4,e5,e6,e7,e8⟩,g0,g1,g2,g3,g4,g5,g6,g7,g8⟩:=a3.1.nine;obtain⟨y0,y1,y2,y3,y4⟩:=a7.cells;have b9:ac V.1.size V (V.alloc (au #[G J m.1,G J m.2,Z m.3,Z m.4,G J m.5] 95)):=(al _ _).alloc (an _) _;have a2:=a3.on b9;have a0:=Aa a2.3;have Q:=Aa a2;have i4:L.1.size+1<=(V.alloc (au #[G J m.1,G J m.2,Z m.3,Z m.4,G J m.5] 95)).1.size:=a2.lt;have b8:=Aa (ES (w:=V) m);rw[R.o]at a0;clear a3 a7 b9 a2 c6 c9 q0 q1 q2 q3 q4 p1 c0 d7;go_wp2_with(at_builtin;go_must(refine aC _ rfl _ _ 99 rfl (L.1.size+1) 95 j0 _ 5 56 aG HJ.o k0.o k1.o k2.o rfl oD (E aw lw kw) lw _ rfl a0.o ⟨V.1.size,0,I⟩ 1 1 (mc m) rfl rfl b8.o (Ek _) (by unfold maxLen;omega) O i4 ?_));intro v5 w5 f a9 _ c1;obtain⟨a5,k5,rfl⟩:=Ar f;have a8:w5.1[L.1.size]?=(V.alloc (au #[G J m.1,G J m.2,Z m.3,Z m.4,G J m.5] 95)).1[L.1.size]?:=a9.5 _ Q.o.lt (λe=>by have:=(CU a0.o e.symm).1;omega);have x6:=(aB (a:=⟨L.1.size,8,I⟩) a8).trans Q.o.1.nine.1.2.2.2.2.2.2.2.2;have s8:=(aA (a:=⟨L.1.size,8,I⟩) a8).trans Q.o.1.nine.2.2.2.2.2.2.2.2.2;have g9:=Aa (Q.o.waits (by rw[R.o];exact f) a9 (c1.imp (λy=>y) (λy=>y.trans oS)));clear f a9 c1 a8 a0 Q b8;go_wp2;go_roundw;case rel=>exact⟨j+1,O,by go_num,Aa ⟨_,_,by rw[l1.o,XC _ _ _ He.o,XE _ _ _ He.o];exact g9.o⟩⟩
    case measure=>simp[intOf];omega
  ·obtain rfl:j=np:=O;have HT:Hid (ms.take j=ms):=Aa (List.take_of_length_le (by rw[a1.o];exact an _));rw[HT.o]at hC;obtain⟨aq,kq,rfl⟩:=Ar hC.2;obtain⟨aw,kw,rfl⟩:=Ar hC.3;obtain⟨lq,r⟩:∃n,Hid ((CO id ms).length=n):=⟨_,rfl⟩;obtain⟨lw,R⟩:∃n,Hid ((DN id ms).length=n):=⟨_,rfl⟩;have s1:lq<=j:=by have:=Mv id ms;have:=r.o;have:=a1.o;omega
   have s3:lw<=j:=by have:=Mw id ms;have:=R.o;have:=a1.o;omega
   have r8:=hC.lt;have f8:=hC.1;have i6:Msgs wr.1.size wr aq (CO id ms):=Cz hC.2;have i7:Msgs wr.1.size wr aw (DN id ms):=Cz hC.3;have i8:Nums wr.1.size wr v ids:=q8.o.on x x.4;obtain⟨g1,g2,g3,g4⟩:=k7.o wr x;have r7:¬(P1 L.1.size\/L.1.size=D.b):=λhp=>by have:=d0.o _ hp;omega
   have p0:∀b o,aq=C ⟨b,o,I⟩->L.1.size+1<=b/\b<wr.1.size:=λb o e=>by
    subst e;rcases hC.2.2 with⟨hz,-⟩|⟨g,l7,cur,hz,hb,hg,-⟩
    ·cases hz
    ·cases hz;exact⟨hb,(ab.1 hg).1⟩
   have p5:∀b o,aw=C ⟨b,o,I⟩->L.1.size+1<=b/\b<wr.1.size:=λb o e=>by
    subst e;rcases hC.3.2 with⟨hz,-⟩|⟨g,l7,cur,hz,hb,hg,-⟩
    ·cases hz
    ·cases hz;exact⟨hb,(ab.1 hg).1⟩
   have l4:=Gi d (Ht id ids ms) HOk.o v aq I aw kt kq 0 kw torn down wr g1 k4.o g2 p7.o (ag (aa rfl)) g3 ⟨i8,i6,λj m hj=>by simp[Ht]at hj,i7⟩;have HW:Hid (aJ ao 100 #[ay (C ⟨H,0,I⟩),.agg #[G J 2,Z ⟨#[]⟩,Z ⟨#[]⟩,G J 0,G J 0,E v nt kt,E aq lq kq,E I 0 0,E aw lw kw]] wr λe w'=>Hid (Mm wr (λk=>P1 k\/k=D.b) H M D k cs A B N d (Ht id ids ms) torn down e w')):=Aa (by rw[<-b2.o,<-r.o,<-R.o];exact l4);have b5:=Aa (λW (hO:Only wr W (λk=>P1 k\/k=D.b))=>(Mt hO r8 r7 f8).nine.1);rw[r.o,R.o]at b5;have c8:=Aa g4;have p9:=Aa i6;have q6:=Aa i7;have q7:=Aa i8;have d1:=Aa p0;have d3:=Aa p5;have j4:=Aa x;have d2:Hid (∀W,Only wr W (λk=>P1 k\/k=D.b)->Un W cs pu tk up ut):=Aa (λW hO=>b7.o W ((Only.of_below x).trans (hO.mono (λk _ hk=>ag hk))));obtain⟨e0,e1,e2,e3,e4,e5,e6,e7,e8⟩:=b5.o wr (Only.refl _ _);clear l4 g1 g2 g3 g4 i6 i7 i8 p0 p5 hC f8 hR x c0 a4 a6;go_wp2_with(go_at_call 100;go_must(refine HW.o.mono ?_);intro e w3 hr;rcases hr.o with⟨hd,rfl,hs,X⟩|⟨hd,b0,rfl,hs,X⟩|⟨hd,b0,b,d',d8,X,⟨rfl,rfl,hs⟩|⟨rfl,rfl,hs⟩⟩<;>refine Hid.out ?_)
   ·refine Aa ?_;have HF:=Aa (Y hd (Y hs X));clear hd hs X hr e0 e1 e2 e3 e4 e5 e6 e7 e8;go_wp2;go_ret;exact aa (ag ⟨HZ.o,HF.o.1,rfl,HF.o.2.1.anchor c8.o,d2.o w3 HF.o.2.1.ev,HF.o.2.2⟩)
   ·refine Aa ?_;have HF:=Aa (Y hd (Y b0 (Y hs X)));clear hd hs X hr b0 e0 e1 e2 e3 e4 e5 e6 e7 e8;go_wp2;go_ret;exact aa (aa (ag ⟨HZ.o,HF.o.1,HF.o.2.1,rfl,HF.o.2.2.1.anchor c8.o,d2.o w3 HF.o.2.2.1.ev,HF.o.2.2.2⟩))
   ·refine Aa ?_;have HF:=Aa (Y hd (Y b0 (Y d8 (Y X hs))));clear hd hs X hr b0 d8 e0 e1 e2 e3 e4 e5 e6 e7 e8;go_wp2;go_ret;obtain⟨f1,f2,f3,f4,f5⟩:=HF.o;refine aa (aa (aa ⟨HZ.o,f1,f2,aF,d',by rw[l.o,S.o];exact f3,f4,ag ⟨rfl,rfl,f5.anchor c8.o,(d2.o w3 f5.ev).same (λk h1 h2=>?_)⟩⟩));rw[F,if_neg O]
   ·refine Aa ?_;obtain⟨P3,m9,r5,n7,n4,f6,o0⟩:=hs.freshTD;have h6:=Aa m9;have k6:=Aa (f6 D d' X);have l0:=Aa (F3 u w3 (o0 w3 (al _ _)) hu (λs=>by have:=l5.o s;omega) (λq=>by have:=l6.o q;omega));have HF:=Aa (Y hd (Y b0 (Y d8 (Y X hs))));clear hd hs X hr b0 d8 e0 e1 e2 e3 e4 e5 e6 e7 e8 m9 r5 n7 n4 f6 o0;go_wp2_with(go_at_call 101;go_must(refine l0.o.mono ?_);rintro e w4 ⟨rfl,r3⟩;refine Hid.out ?_);refine Aa ?_;obtain⟨l8,c5,e9,f0,qk⟩:=r3;have U:Only wr w4 (λk=>P1 k\/k=D.b):=HF.o.2.2.2.2.ev.trans (c5.ev.mono (λk _ hk=>h6.o.2 k hk));obtain⟨e0,e1,e2,e3,e4,e5,e6,e7,e8⟩:=b5.o w4 U;obtain⟨P4,h9,n1,n8,n5,f7,o1⟩:=c5.freshTD;have b1:∀k,P4 k->(P1 k\/k=D.b)\/wr.1.size<=k:=(h6.o.trans h9).2;have c4:∀b,w.1.size<=b->b<wr.1.size->¬P4 b:=λb h1 h2 hp=>by
     rcases b1 b hp with h|h
     ·have:=d0.o b h;omega
     ·omega
    have hold:∀k,Cu up ut k->¬P4 k:=λk hk hp=>by
     rcases b1 k hp with h|h
     ·exact l2.o k hk h
     ·have:=l3.o k hk;have:=j4.o.4;omega
    have o6:wr.1.size<=w4.1.size:=U.4;have l9:l8[5]?=C (G J cnt):=(qk 5 (ag O) O O).trans (by rw[F,if_neg O];exact H5.o);have o9:Msgs w4.1.size w4 aq (CO id ms):=p9.o.only U (λb o e hp=>by have:=d1.o b o e;have:=d0.o b hp;omega);have p3:Msgs w4.1.size w4 aw (DN id ms):=q6.o.only U (λb o e hp=>by have:=d3.o b o e;have:=d0.o b hp;omega);have o2:Nums w4.1.size w4 v ids:=λq z hz=>by obtain⟨b,o,e,hb,hc⟩:=q7.o q z hz;have s5:=h7.o b o e;exact⟨b,o,e,ax hb o6,(U.cell hb (l2.o b s5)).trans hc⟩
    have b6:=QT H M l8 (λs=>AK u ah (A s)) (λq=>AK u ah (B q)) N P4 ⟨#[]⟩ ⟨#[]⟩ 0 0 cnt v aq I aw kt kq 0 kw ids (CO id ms) (DN id ms) w4 (o1 w4 (al _ _)) l9 n1
     (λs=>by have:=l5.o s;have:=Gx u ah (A s);have:=r.o;omega) (λq=>by have:=l6.o q;have:=Gx u ah (B q);have:=R.o;omega) (by have:=r.o;omega) o2 o9 p3 (by have:=b2.o;omega) (by have:=r.o;omega) (by have:=R.o;omega) r1.o r2.o
     (λb o e=>⟨ax (l3.o b (h7.o b o e)) (by have:=j4.o.4;omega),hold b (h7.o b o e)⟩)
     (λb o e=>⟨by have:=d1.o b o e;omega,c4 b (by have:=d1.o b o e;omega) (d1.o b o e).2⟩)
     (λb o e=>⟨by have:=d3.o b o e;omega,c4 b (by have:=d3.o b o e;omega) (d3.o b o e).2⟩);rw[b2.o,r.o,R.o]at b6;have j7:=Aa b6;have p8:=Aa h9;have s9:=Aa hold;have r0:=Aa (Y e9 (Y f0 qk));have q9:=Aa f7;have j8:=Aa c5.ev;have k8:=Aa b1;have k3:=Aa U;have k9:=Aa c5.size;clear b6 U c5 h9 n1 n8 n5 f7 o1 b1 c4 hold l9 o9 p3 o2 e9 f0 qk l0;go_wp2_with(go_at_call 91;go_must(refine j7.o.mono ?_);rintro e w5 ⟨rfl,m7⟩;refine Hid.out ?_);refine Aa ?_;have c7:=Aa m7;clear m7 j7 e0 e1 e2 e3 e4 e5 e6 e7 e8;go_wp2;go_ret;obtain⟨d4,g1,g2,g3⟩:=c7.o;obtain⟨f1,f2,f3,f4,f5⟩:=HF.o;obtain⟨e9,f0,qk⟩:=r0.o;have f9:=f4.only j8.o k6.o;have s4:=k9.o;have s6:d4[68+u*2]?=C (E I 0 0):=(g3 _ (ag O)).trans (by rw[F,if_neg O];exact e9);have s7:d4[68+u*2+1]?=C (E I 0 0):=(g3 _ (ag O)).trans (by rw[F,if_neg O];exact f0);have j2:∀q,(q<78\/¬(q-78)%4=0)->q≠5->q≠68+u*2->q≠68+u*2+1->d4[q]?=(cs.setIfInBounds 2 (G J ((k:Int)+1)))[q]?:=λq h1 h2 h3 h4=>(g3 q h1).trans (by rw[F,if_neg O];exact qk q h1 h3 h4);refine aa (aa (aa ⟨HZ.o,f1,f2,ah,d',by rw[l.o,S.o];exact f3,f9.only g1.ev (q9.o D d' f9),aa ⟨rfl,rfl,d4,?_,?_,?_,?_,λq h1 h2 h3 h4 h5=>?_⟩⟩))
    ·rw[l.o,S.o];exact((g1.anchor p8.o).anchor h6.o).anchor c8.o
    ·refine(d2.o w5 (k3.o.trans (g1.ev.mono (λq _ hq=>k8.o q hq)))).none s6 s7 (λq h1 h2 h3 h4=>?_);rw[j2 q (ag h2) O h3 h4,F,if_neg O]
    ·rw[j2 2 (ag O) O O O,F,if_pos rfl,if_pos O]
    ·rw[g3 5 (ag O),F,if_pos rfl,if_pos O,S.o]
    ·rw[j2 q h1 h3 h4 h5,F,if_neg O]
theorem Fv{x:Nm}(h:AO x=ah):(⟨0,x,0,[],[],[],[]⟩:Ch).ok:=by
 have a:=Cl h;simp only[AO,aH,decide_eq_true_eq,Bool.or_eq_true]at h;obtain⟨⟨⟨c,d⟩,e⟩,b⟩:=h;refine⟨⟨oS,oS⟩,λz a=>ER _ _ c z a,λz a=>?_,⟨ae a.1 O,ae a.2 O⟩,⟨d,by show x.3<=3;omega⟩,⟨oS,oS⟩,oS,⟨oS,oS,oS,oS⟩,⟨oS,oS,oS⟩⟩;rcases b with b|b
 ·simp only[Nm.own,aH,List.isEmpty_iff]at b;rw[av]at b;rw[b.1]at a;simp at a
 ·exact ER _ _ b z a
theorem Qi{ns:List Nm}{x:Nm}(h:Dp ns x=0):AO x=ah:=by
 unfold Dp at h;split at h
 ·assumption
 ·omega
def Q0Z(w:ai)(P:Nat->Prop)(H M:Nat)(D:DP)(k:Nat)(cs:Array af)(A:ByteArray->List Pl)(B:Nat->List Pl)(N:Nat)(ns:List Nm)(x:Nm)(d:Dk)(torn:Int)(down:Bool)(e:Ending)(w':ai):Prop:=(Dp ns x≠0/\e=ad (aD 25 (G J (Dp ns x)))/\Hs w P H M cs A B N w'/\DB w' D d)\/(Dp ns x=0/\x.1=AD/\e=ad (aD 25 (G J 5))/\Hs w P H M cs A B N w'/\DB w' D d)\/(Dp ns x=0/\x.1≠AD/\WdN w P H M D k cs A B N d ⟨0,x,0,[],[],[],[]⟩ torn down (CW ns x) e w')
theorem DoneNames.anchor{w W w':ai}{P P1:Nat->Prop}{H M:Nat}{cs:Array af}{A:ByteArray->List Pl}{B:Nat->List Pl}{N:Nat}{ns:List Nm}(h:DoneNames W P1 H M cs A B N ns w')(d:Ev w W P P1):DoneNames w P H M cs A B N ns w':=by obtain⟨cs',a,b,c⟩:=h;exact⟨cs',a.anchor d,b,c⟩
theorem WdN.anchor{w W w':ai}{P P1:Nat->Prop}{H M:Nat}{D:DP}{k:Nat}{cs:Array af}{A:ByteArray->List Pl}{B:Nat->List Pl}{N:Nat}{d:Dk}{c:Ch}{torn:Int}{down:Bool}{ns:List Nm}{e:Ending}(h:WdN W P1 H M D k cs A B N d c torn down ns e w')(l:Ev w W P P1):WdN w P H M D k cs A B N d c torn down ns e w':=by
 rcases h with⟨a,f,g,i⟩|⟨a,f,g,i,j⟩|⟨a,f,b,d',g,i,⟨j,m,n⟩|⟨j,m,n⟩⟩
 ·exact ag ⟨a,f,g.anchor l,i⟩
 ·exact aa (ag ⟨a,f,g,i.anchor l,j⟩)
 ·exact aa (aa ⟨a,f,b,d',g,i,ag ⟨j,m,n.anchor l⟩⟩)
 ·exact aa (aa ⟨a,f,b,d',g,i,aa ⟨j,m,n.anchor l⟩⟩)
theorem Sr(H M:Nat)(D:DP)(k:Nat)(cs:Array af)(A:ByteArray->List Pl)(B:Nat->List Pl)(N:Nat)(P:Nat->Prop)(x:Nm)(ns:List Nm)(d:Dk)(torn:Int)(down:Bool)(w:ai)(h:Hs w P H M cs A B N w)(a4:P D.b)(hn:NmC cs ns)(ho:As ns)(hr:∀x∈ns,AO x=ah)(hx:x.wf)(hw:O1 cs D k torn down)(hD:DB w D d)(hk:FN d k)(hL:Lay w):aJ ao 54 #[ay (C ⟨H,0,I⟩),.agg #[Z x.1,Z x.2,G J x.3]] w (Q0Z w P H M D k cs A B N ns x d torn down):=by
 obtain⟨P1,a2,Q,b3,a5,b4,a6⟩:=h.freshTD;have b8:H<w.1.size:=Q H a5;have sub:∀k,P1 k->P k:=λk hk=>(a2.2 k hk).elim (λy=>y) (λy=>by have:=Q k hk;omega);have R:∀W,ac w.1.size w W->Hs W (λk=>P1 k\/k=D.b) H M cs A B N W/\DB W D d/\Lay W/\Ev w W P (λk=>P1 k\/k=D.b):=λW a=>⟨(a6 W a).more (λk hk=>ag hk),hD.below a,hL.below a,⟨Only.of_below a,λk hk=>ag (hk.elim (sub k) (λe=>e▸a4))⟩⟩;have b6:=hn;obtain⟨pre,post,rest,hc,a9,a8⟩:=b6;have a3:∀W,ac w.1.size w W->NB W H 140 6 pre post ns rest:=λW a=>⟨by rw[<-hc];exact h.here.after a,a9,a8⟩;have X:=Aa (λW (a:ac w.1.size w W)=>FV H 140 pre post ns rest W (a3 W a) ho hr);have a0:=Aa (λb r W (hN:NB W b 128 0 [] [] ns r)=>M1 b 128 0 [] [] ns r x W hN ho hx);have a1:Hid (∀W,ac w.1.size w W->AO x=ah->aJ ao 96 #[ay (C ⟨H,0,I⟩),.agg #[G J 0,Z x.1,Z x.2,G J x.3,G J 0,E I 0 0,E I 0 0,E I 0 0,E I 0 0]] W λe w'=>Hid (WdN w P H M D k cs A B N d ⟨0,x,0,[],[],[],[]⟩ torn down (CW ns x) e w')):=Aa (λW a b7=>by obtain⟨g1,g2,g3,g4⟩:=R W a;exact(OM H M D k cs A B N _ x ns d torn down W (Fv b7) g1 (aa rfl) hn ho hx hw g2 hk g3).mono (λe w' h=>Aa (h.anchor g4)));have v:Hid (∀W,ac w.1.size w W->Hs w P H M cs A B N W/\DB W D d):=Aa (λW a=>by obtain⟨g1,g2,g3,g4⟩:=R W a;exact⟨g1.anchor g4,g2⟩);obtain⟨nm,tx,nh⟩:=x;simp only at*;have m:ac w.1.size w (w.alloc (au #[Z nm,Z tx,G J nh] 88)):=(al _ _).alloc (an _) _;have g:=Blk.new w #[Z nm,Z tx,G J nh] 88;obtain⟨W0,b5⟩:∃W0,w.alloc (au #[Z nm,Z tx,G J nh] 88)=W0:=⟨_,rfl⟩;rw[b5]at m g;have hX:w.1.size<W0.1.size:=(ab.1 g).1;have HS:Hid (∀W,ac W0.1.size W0 W->(W.cell? ⟨w.1.size,0,I⟩=C (Z nm)/\W.cell? ⟨w.1.size,1,I⟩=C (Z tx)/\W.cell? ⟨w.1.size,2,I⟩=C (G J nh))/\ac W0.1.size W0 W):=Aa (λW a=>⟨⟨(a.cell (p:=⟨w.1.size,0,I⟩) hX).trans (by simpa using g.cell 0),(a.cell (p:=⟨w.1.size,1,I⟩) hX).trans (by simpa using g.cell 1),(a.cell (p:=⟨w.1.size,2,I⟩) hX).trans (by simpa using g.cell 2)⟩,a⟩);obtain⟨S,c⟩:∃S,Hid (Dp ns ⟨nm,tx,nh⟩=S):=⟨_,rfl⟩;have u:Hid (∀W,ac W0.1.size W0 W->aJ ao 94 #[ay (C ⟨H,0,I⟩)] W λe w'=>∃b r,e=ad (ay (C ⟨b,0,I⟩))/\Hid (W0.1.size<=b/\NB w' b 128 0 [] [] ns r)/\ac W0.1.size W0 w'):=Aa (λW a=>(X.o W (Ab m m.4 a)).mono (λe w' h=>by obtain⟨b,r,h1,h2⟩:=h;obtain⟨h2,h3,h4⟩:=h2.o;exact⟨b,r,h1,Aa ⟨ae a.4 h2,h3⟩,Ab a a.4 h4⟩));have l:Hid (∀b r W,Hid (W0.1.size<=b/\NB W b 128 0 [] [] ns r)->ac W0.1.size W0 W->aJ ao 95 #[ay (C ⟨b,0,I⟩),.agg #[Z nm,Z tx,G J nh]] W λe w'=>e=ad (BH S)/\ac W0.1.size W0 w'):=Aa (λb r W h1 a=>(a0.o b r W h1.o.2).mono (λe w' h=>⟨by rw[<-c.o];exact h.1,BN a h.2.2 h1.o.1⟩));have V:=Aa m;have b2:ac W0.1.size W0 W0:=al _ _;obtain⟨⟨c0,c1,c2⟩,-⟩:=HS.o W0 b2;clear h a4 hn ho hr hx hw hD hk hL a2 Q b3 a5 b4 a6 sub R hc a9 a8 a3 X m g;go_enter Tryz.func54,Tryz.ntmps54;go_wp2;go_region_held3(λW=>(W.cell? ⟨w.1.size,0,I⟩=C (Z nm)/\W.cell? ⟨w.1.size,1,I⟩=C (Z tx)/\W.cell? ⟨w.1.size,2,I⟩=C (G J nh))/\ac W0.1.size W0 W)
  ((refine HS.o _ ?_;repeat(with_reducible first|assumption|refine Below.drew ?_)))
  ((first
    |(go_at_call 94;refine Calls.mono (u.out _ (by repeat(with_reducible first|assumption|refine Below.drew ?_))) ?_;rintro e w5 ⟨b,r,rfl,h5,b1⟩)
    |(go_at_call 95;refine Calls.mono (l.out b r _ (by first|exact h5|exact Aa ⟨h5.out.1,h5.out.2.below ((Below.refl _ _).drew) h5.out.2.lt⟩) (by repeat(with_reducible first|assumption|refine Below.drew ?_))) ?_;rintro e w6 ⟨rfl,L⟩)));all_goals
  have n:ac w.1.size w w6:=Ab V.o V.o.4 L;obtain⟨⟨c0,c1,c2⟩,-⟩:=HS.o w6 L;have s:=Aa (v.o w6 n);have z:=Aa (a1.o w6 n);clear h5 b1 L u l HS n v a1;by_cases he:S=0;case neg=>have q:BH S=aD 25 (G J S):=if_neg he;rw[q];have He:=Aa he;clear he q;go_wp2;go_ret;rw[<-c.o];exact ag ⟨by rw[c.o];exact He.o,rfl,s.o.1,s.o.2⟩
  subst he;have q:BH 0=.nilIface:=rfl;rw[q];have b0:=Aa (z.o (Qi c.o));clear q z;by_cases j:nm=AD
  ·have e:nm.toList=[100,101,97,100]:=by rw[j,av];rfl
   have f:=Aa j;clear j;go_wp2;go_ret;exact aa (ag ⟨c.o,f.o,rfl,s.o.1,s.o.2⟩)
  ·have e:¬nm.toList=[100,101,97,100]:=λe=>j (ByteArray.ext (Array.toList_inj.1 (by rw[av]at e;exact e)));have e2:(nm.toList==[100,101,97,100])=aF:=by simpa using e
   have f:=Aa j;clear j e;go_wp2_with(go_at_call 96;go_must(refine b0.o.mono ?_);intro e w7 hr;rcases hr.o with⟨U,rfl,hs,i⟩|⟨U,t,rfl,hs,i⟩|⟨U,t,b,d',a7,i,⟨rfl,rfl,hs⟩|⟨rfl,rfl,hs⟩⟩<;>refine Hid.out ?_)
   ·refine Aa ?_;go_wp2;go_ret;exact aa (aa ⟨c.o,f.o,ag ⟨U,rfl,hs,i⟩⟩)
   ·refine Aa ?_;go_wp2;go_ret;exact aa (aa ⟨c.o,f.o,aa (ag ⟨U,t,rfl,hs,i⟩)⟩)
   ·refine Aa ?_;go_wp2;go_ret;exact aa (aa ⟨c.o,f.o,aa (aa ⟨U,t,aF,d',a7,i,ag ⟨rfl,rfl,hs⟩⟩)⟩)
   ·refine Aa ?_;go_wp2;go_ret;exact aa (aa ⟨c.o,f.o,aa (aa ⟨U,t,ah,d',a7,i,aa ⟨rfl,rfl,hs⟩⟩)⟩)
end
end Go.Proofs.YtkkallehdijiaaaGreatDoor
