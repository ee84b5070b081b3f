import Derived.Test.YtkabgmdjfiidhaaGreatDoorZHpWd
import Derived.Test.YtkabgmdjfiidhaaGreatDoorZShelfI
import Derived.Laws.AppendOwnNone
set_option maxHeartbeats 0
set_option maxRecDepth 99999
open Go.Proofs.Tryz renaming underlying9->F,prog->aa,underlying22->ab
open Go.Maps renaming keyOf_str->Z,size->ad
open List renaming getElem?_eq_some_iff->I,mergeSort_perm->Y,length_append->C,mem_map->T,pairwise_map->ac,map_map->af
open Option renaming none->J,some->G
open Go renaming strKeys->E,callsIn_wide->ae,World->ag,maxLen->ah
namespace Go.Proofs.YtkabgmdjfiidhaaGreatDoor
section
open Go.RowKit Go.Maps
theorem GH(l:List UInt8):(⟨l.toArray⟩:ByteArray).1.1=l:=oS
theorem IG(s:ByteArray):(⟨s.1.1.toArray⟩:ByteArray)=s:=by apply ByteArray.ext;simp
theorem QM.keys{w:ag}{M n:Nat}{f:ByteArray->Option Nat}(h:QM w M n f):∃D:DataW Unit,w.ownsMap aa 9 AP M n D/\(E D).Nodup/\(∀l∈E D,l.length<=ah)/\∀l,l∈E D↔f ⟨l.toArray⟩≠J:=by
 obtain⟨D,d,z,A⟩:=h;refine⟨D,d,?_,strKeys_le d F,λl=>?_⟩
 ·obtain⟨s,t,o,-⟩:=d.entries Ec;obtain⟨j,g,a⟩:=d.keysOf;obtain rfl:s=j:=by rw[t]at g;simpa using g
  subst t;refine ac.2 (o.imp_of_mem λ{p q} c hq m e=>m ?_);obtain⟨v,i⟩:=a p c;obtain⟨R,r⟩:=a q hq;obtain⟨x,-,hx,-⟩:=Z F i;obtain⟨y,-,Q,-⟩:=Z F r;rw[hx,Q]at e⊢;exact congrArg _ e
 ·have N:l∈E D↔has D (.string l)=true:=by
   obtain⟨s,rfl,a⟩:=d.keysOf;rw[has_eq,List.any_eq_true];constructor
   ·intro P;obtain⟨p,c,rfl⟩:=T.1 P;obtain⟨v,i⟩:=a p c;obtain⟨x,-,hx,-⟩:=Z F i;exact⟨p,c,by rw[hx];simp[strOf,Lit.sameKey]⟩
   ·rintro⟨p,c,u⟩;obtain⟨v,i⟩:=a p c;obtain⟨x,-,hx,-⟩:=Z F i;rw[hx]at u;have:x=l:=by simpa[Lit.sameKey]using u
    exact T.2 ⟨p,c,by rw[hx,this];rfl⟩
  rw[N];constructor
  ·intro L;have:=A ⟨l.toArray⟩;rw[GH]at this;exact this L
  ·intro H;cases hb:has D (.string l)with
   |true=>rfl
   |false=>
    have B:=atKey_of_not_has hb (DW J);have k:=z ⟨l.toArray⟩;rw[GH,B]at k;cases ho:f ⟨l.toArray⟩with
    |none=>exact absurd ho H
    |some b=>rw[ho]at k;simp[DW]at k
def BR(A:ByteArray->List Pl)(a:List ByteArray):List Mg:=a.flatMap λs=>Af Pl.kept (Aw (A s))
theorem Ez(A:ByteArray->List Pl)(a:List ByteArray)(s:ByteArray):BR A (a++[s])=BR A a++Af Pl.kept (Aw (A s)):=by simp[BR]
theorem PD(a b:List Mg):AS (a++b)=AS a++AS b:=by simp[AS]
structure Hu(A:ByteArray->List Pl)(ks:List ByteArray):Prop where
 nodup:ks.Nodup
 all:∀s,s∉ks->A s=[]
 sorted:(ks.map λs=>s.1.1).Pairwise λa b=>leB a b=true
theorem Kk(A:ByteArray->List Pl)(d:∀s,(A s).length<=1000)(c:∀s,Fit (A s))(a:List ByteArray):(BR A a).length<=a.length*1000:=by
 induction a with
 |nil=>simp[BR]
 |cons s r ih=>
  have e:BR A (s::r)=Af Pl.kept (Aw (A s))++BR A r:=by simp[BR]
  rw[e,C,List.length_cons];have b:(Af Pl.kept (Aw (A s))).length<=(Aw (A s)).length:=Bu _ _;rw[AO (c s)]at b;have:=d s;omega
theorem own_rowM{w:ag}{B n:Nat}{v:Value}{b:List Mg}(h:w.ownsRow B 84 5 v n (AS b)):(v=.slice J 0 0/\b=[])\/∃g c,v=.slice (G ⟨g,0,J⟩) n c/\∀j u,(AS b)[j]?=G u->w.cell? ((⟨g,0,J⟩:Addr).add j)=G u:=by
 rcases h.2 with⟨a,f⟩|⟨g,cap,cur,a,d,i,-⟩
 ·refine .inl ⟨a,?_⟩;have:=h.1;rw[f]at this;cases b with
  |nil=>rfl
  |cons m r=>simp[AS,mc]at this
 ·refine .inr ⟨g,cap,a,λj u e=>?_⟩;subst a;have d:(⟨g,0,J⟩:Addr).add j=⟨g,j,J⟩:=by unfold Addr.add;split<;>simp_all
  rw[d];exact(h.cellAt j (by have:=(I.1 e).1;have:=h.1;omega)).trans e
theorem Py(a:List (List UInt8)):∃ks:List ByteArray,ks.map (λs=>s.1.1)=a:=by
 refine⟨a.map (λl=>⟨l.toArray⟩),?_⟩;rw[af];induction a with
 |nil=>rfl
 |cons l r ih=>rw[List.map_cons,ih];congr 1
theorem TH{w:ag}{b n:Nat}{D:DataW Unit}(h:w.ownsMap aa 9 AP b n D):(E D).length=ad D:=by obtain⟨a,rfl,-⟩:=h.keysOf;simp[E,ad]
theorem QT{w0:ag}{P0:Nat->Prop}{H M:Nat}{cs:Array Value}{A:ByteArray->List Pl}{B:Nat->List Pl}{N:Nat}(w:ag)(h:Hs w0 P0 H M cs A B N w)(hl:∀s,(A s).length<=1000)(hN:N<1000000):Calls aa 30 #[.pointer (G ⟨H,0,J⟩)] w λe w'=>∃d v',e=.returned v'/\Hid (Hu A d/\w'.ownsRow w.1.size 84 5 v' (BR A d).length (AS (BR A d))/\Below w.1.size w w'):=by
 obtain⟨n,f,vs,ws,k,h2,h3⟩:=h;obtain⟨D,hown,b0,c9,c8⟩:=k.1.q.1.keys;have f0:=k.1.q.1.lt;have e4:=k.1.o.hlt;have e2:=(k.1.o.1.cell 67).trans k.1.m;have f5:ad D<=n:=hown.size_le;have f2:=TH hown;have b1:Hid (∀W,Calls aa 90 #[.map (G M)] W λe w'=>e=.returned (.func (.func 156) #[] #[.pointer (G ⟨W.1.size,0,J⟩)])/\w'=W.alloc (.cells #[.map (G M)] 104)):=Aa (λW=>(ae (n:=5)).1 (Tryz.maps_Keys_90 (G M) W));have b3:=Aa ((ae (n:=5)).1 (Tryz.slices_Sorted_keys_89_90 M n D AP w hown (by unfold ah;omega) O));have HQ:Hid (∀W,Below w.1.size w W->HS W H M n cs f vs A ws B):=Aa (λW hB=>k.below hB);have R:=Aa k.2;have S:=Aa hl;have b2:Hid (∀s,f s=J->A s=[]):=Aa (λs P=>k.nil P);have a3:=Aa (And.intro b0 (And.intro c9 c8));obtain⟨j0,hj,c5,c6,c7⟩:=Aj Du;have HJ:=Aa hj;have d5:=Aa c5;have d6:=Aa c6;have d7:=Aa c7;clear k h2 hown b0 c9 c8 hj c5 c6 c7 hl;go_enter Tryz.func30,Tryz.ntmps30;go_wp2_with(go_at_call 90;go_must(refine(b1.o _).mono ?_);rintro e w1 ⟨rfl,rfl⟩;refine Hid.out ?_);refine Aa ?_;go_wp2_with(go_at_call 89;go_must(refine b3.o.mono ?_);rintro e w1 ⟨v,ss,rfl,r,z,d2,c1⟩;refine Hid.out ?_);refine Aa ?_;obtain⟨d,b4⟩:=Py (ss.mergeSort (λx y=>decide (x<=y)));have U:=Aa b4;clear b4;have b5:d.length=ss.length:=by have:=congrArg List.length U.o;rw[List.length_map,List.length_mergeSort]at this;exact this
 have a0:∀s,s∈d↔f s≠J:=λs=>by
  have e1:s∈d↔s.1.1∈d.map (λs=>s.1.1):=by
   rw[T];constructor
   ·exact λP=>⟨s,P,rfl⟩
   ·rintro⟨t,ht,e⟩;have:t=s:=ByteArray.ext (Array.toList_inj.1 e);exact this▸ht
  rw[e1,U.o,(Y ss _).mem_iff,r.mem_iff,a3.o.2.2,IG]
 have c3:Hu A d:=by
  have b0:(d.map (λs=>s.1.1)).Nodup:=by rw[U.o,(Y ss _).nodup_iff,r.nodup_iff];exact a3.o.1
  refine⟨?_,λs P=>b2.o s ?_,?_⟩
  ·exact(ac.1 b0).imp (λe5 e=>e5 (by rw[e]))
  ·cases ho:f s with
   |none=>rfl
   |some b=>exact absurd ((a0 s).2 (by rw[ho];simp)) P
  ·rw[U.o];exact List.pairwise_mergeSort (λa b c k h2=>by simp only[decide_eq_true_eq]at*;exact List.le_trans k h2) (λa b=>by simp only[Bool.or_eq_true,decide_eq_true_eq];exact List.le_total a b) ss
 have e7:d.length<=1000000:=by have:=r.length_eq;omega
 obtain⟨a,kc,rfl⟩:=Ah z;have X:∀j s,d[j]?=G s->∃g,a=G ⟨g,0,J⟩/\g<w1.1.size/\w1.cell? ⟨g,j,J⟩=G (.string s):=λj s P=>by
  have f1:=(I.1 P).1;have e1:((ss.mergeSort (λx y=>decide (x<=y))).map encStr)[j]?=G (.string s):=by rw[<-U.o,af,List.getElem?_map,P];simp[encStr]
  rcases z.2 with⟨h0,k⟩|⟨g,cap,cur,h0,hb,hg,-⟩
  ·omega
  ·cases h0;exact⟨g,rfl,(Array.getElem?_eq_some_iff.1 hg).1,(z.cellAt j O).trans e1⟩
 have L:Below w.1.size w w1:=Ab ((Below.refl _ _).alloc (Nat.le_refl _) _) oS c1;obtain⟨nk,V⟩:∃n,Hid (d.length=n):=⟨_,rfl⟩;rw[<-b5,V.o];rw[V.o]at e7;have b6:=Aa X;have HMem:=Aa a0;have d8:=Aa c3;have Q:=Aa L;clear X a0 c3 L z c1 d2 r b5 b1 b3 b2;go_wp2;go_loopw[3,13] (λl i wr=>∃j:Nat,j<=nk/\i=.int .i64 j/\Hid (wr.ownsRow w1.1.size 84 5 l (BR A (d.take j)).length (AS (BR A (d.take j))))/\Below w1.1.size w1 wr) (λ_ i _=>nk-(intOf i).toNat);case atStart=>exact⟨0,Nat.zero_le _,rfl,Aa (World.ownsRow_nil _ _ _ _),Below.refl _ _⟩
 case round=>
  obtain⟨j,hj,rfl,hO,hB⟩:=hrel;by_cases e9:j<nk
  ·obtain⟨s,P⟩:∃s,d[j]?=G s:=⟨_,List.getElem?_eq_getElem (by rw[V.o];exact e9)⟩;obtain⟨g,rfl,e6,hc⟩:=b6.o j s P;have q0:=(hB.cell (p:=⟨g,j,J⟩) e6).trans hc;have L:=Ab Q.o Q.o.4 hB;have hS:=HQ.o wr L;have c0:=(L.cell (p:=⟨H,67,J⟩) e4).trans e2;obtain⟨q,hq⟩:∃q,f s=G q:=by
    cases ho:f s with
    |none=>exact absurd ho ((HMem.o s).1 (List.mem_of_getElem? P))
    |some q=>exact⟨q,rfl⟩
   have d4:s.size<=ah:=by have k:=(a3.o.2.2 s.1.1).2 (by rw[IG,hq];simp);have h2:=a3.o.2.1 _ k;rw[Array.length_toList]at h2;exact h2
   have a9:=hS.1.q.1.look s d4;rw[hq]at a9;simp only[Cd]at a9;have a5:=Aa (GR q (vs s) (Aw (A s)) wr (hS.1.q.q s q hq) (by rw[AO (R.o s)];exact S.o s));have b9:Hid (d.take (j+1)=d.take j++[s]):=Aa (by rw[List.take_add_one,P];rfl);obtain⟨nl,a6⟩:∃n,Hid ((BR A (d.take j)).length=n):=⟨_,rfl⟩;have f3:nl<=1000*j:=by have k:=Kk A S.o R.o (d.take j);rw[List.length_take,V.o,a6.o]at k;have:min j nk=j:=O;rw[this]at k;omega
   obtain⟨nt,a7⟩:∃n,Hid ((Af Pl.kept (Aw (A s))).length=n):=⟨_,rfl⟩;have f4:nt<=1000:=by have k:=Bu Pl.kept (Aw (A s));rw[AO (R.o s),a7.o]at k;have:=S.o s;omega
   rw[a6.o]at hO;rw[a7.o]at a5;have HO:=hO;have b8:=Aa hB;clear P hc hS hq d4 hO L;go_wp2_with(go_at_call 91;go_must(refine a5.o.mono ?_);rintro e w2 ⟨⟨v2,rfl,b7⟩,a8⟩;refine Hid.out ?_);refine Aa ?_;have a4:=Aa (Cr HO.o a8);have a2:Hid (Below w1.1.size w1 w2):=Aa (Ab b8.o b8.o.4 a8);have d0:w1.1.size<=w2.1.size:=a2.o.4;rcases own_rowM b7 with⟨rfl,hz⟩|⟨g2,c2,rfl,d1⟩
   ·have Hz:=Aa hz;clear b7 a8 hz a5 q0 c0 a9;go_wp2_with(at_builtin;go_must(refine wpList_append_own_none rfl _ _ 22 rfl w1.1.size 84 j0 5 ab HJ.o u3 nl _ rfl a4.o rfl ?_));go_wp2;go_roundw;case rel=>refine⟨j+1,O,by go_num,Aa ?_,a2.o⟩;rw[b9.o,Ez,Hz.o,List.append_nil,a6.o];exact a4.o
    case measure=>simp[intOf];omega
   ·have e0:=Aa d1;have e8:Hid ((AS (Af Pl.kept (Aw (A s)))).length=nt*5):=Aa (by rw[PE,a7.o]);have d3:Hid (∀u∈AS (Af Pl.kept (Aw (A s))),u.oneCell'=true):=Aa (λu hu=>by obtain⟨m,-,hm⟩:=List.mem_flatMap.1 hu;exact Cu m u hm);clear b7 a8 d1 a5 q0 c0 a9;go_wp2_with(at_builtin;go_must(refine wpList_append_own _ rfl _ _ 22 rfl w1.1.size 84 j0 _ 5 56 ab HJ.o d5.o d6.o d7.o rfl oD u3 nl _ rfl a4.o ⟨g2,0,J⟩ nt c2 (AS (Af Pl.kept (Aw (A s)))) rfl e8.o e0.o d3.o (by unfold ah;omega) O d0 ?_));intro v5 w5 a1 c4 _;have e3:Below w1.1.size w1 w5:=AB a2.o a4.o c4 a2.o.4 (Nat.le_refl _);have d9:=Aa a1;clear a1 c4;go_wp2;go_roundw;case rel=>refine⟨j+1,O,by go_num,Aa ?_,e3⟩;rw[b9.o,Ez,PD,C,a6.o,a7.o];exact d9.o
    case measure=>simp[intOf];omega
  ·obtain rfl:j=nk:=O;have HT:Hid (d.take j=d):=Aa (List.take_of_length_le (by rw[V.o];exact Nat.le_refl _));go_wp2;go_ret;have ho:=hO.o;rw[HT.o]at ho;exact⟨d,_,rfl,Aa ⟨d8.o,AW ho Q.o.4,Ab Q.o Q.o.4 hB⟩⟩
end
end Go.Proofs.YtkabgmdjfiidhaaGreatDoor
