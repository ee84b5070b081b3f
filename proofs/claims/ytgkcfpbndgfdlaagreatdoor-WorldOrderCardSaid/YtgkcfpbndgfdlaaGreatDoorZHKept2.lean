import Derived.Test.YtgkcfpbndgfdlaaGreatDoorZHpWd
import Derived.Test.YtgkcfpbndgfdlaaGreatDoorZShelfI
import Derived.Laws.AppendOwnNone
set_option linter.all false
set_option maxHeartbeats 0
set_option maxRecDepth 99999
open Go.Proofs.Tryz renaming underlying9->F,prog->aa,underlying31->ab
open Go.Maps renaming keyOf_str->Z,size->ad
open List renaming getElem?_eq_some_iff->I,mergeSort_perm->Y,length_append->C,mem_map->T,pairwise_map->ac,map_map->af
open Option renaming none->J,some->G
open Go renaming strKeys->E,callsIn_wide->ae,World->ag,maxLen->ah
namespace Go.Proofs.YtgkcfpbndgfdlaaGreatDoor
section
open Go.RowKit Go.Maps
theorem KH(l:List UInt8):(⟨l.toArray⟩:ByteArray).1.1=l:=oS
theorem Qb(s:ByteArray):(⟨s.1.1.toArray⟩:ByteArray)=s:=by apply ByteArray.ext;simp
theorem QM.keys{w:ag}{M n:Nat}{f:ByteArray->Option Nat}(h:QM w M n f):∃D:DataW Unit,w.ownsMap aa 9 Z3 M n D/\(E D).Nodup/\(∀l∈E D,l.length<=ah)/\∀l,l∈E D↔f ⟨l.toArray⟩≠J:=by
 obtain⟨D,h1,h2,s⟩:=h;refine⟨D,h1,?_,strKeys_le h1 F,λl=>?_⟩
 ·obtain⟨o,r,k,-⟩:=h1.entries Jn;obtain⟨g,d,a⟩:=h1.keysOf;obtain rfl:o=g:=by rw[r]at d;simpa using d
  subst r;refine ac.2 (k.imp_of_mem λ{p q} c hq j e=>j ?_);obtain⟨v,hv⟩:=a p c;obtain⟨v',m⟩:=a q hq;obtain⟨x,-,hx,-⟩:=Z F hv;obtain⟨y,-,B,-⟩:=Z F m;rw[hx,B]at e⊢;exact congrArg _ e
 ·have hk:l∈E D↔has D (.string l)=true:=by
   obtain⟨o,rfl,a⟩:=h1.keysOf;rw[has_eq,List.any_eq_true];constructor
   ·intro A;obtain⟨p,c,rfl⟩:=T.1 A;obtain⟨v,hv⟩:=a p c;obtain⟨x,-,hx,-⟩:=Z F hv;exact⟨p,c,by rw[hx];simp[strOf,Lit.sameKey]⟩
   ·rintro⟨p,c,hs⟩;obtain⟨v,hv⟩:=a p c;obtain⟨x,-,hx,-⟩:=Z F hv;rw[hx]at hs;have:x=l:=by simpa[Lit.sameKey]using hs
    exact T.2 ⟨p,c,by rw[hx,this];rfl⟩
  rw[hk];constructor
  ·intro z;have:=s ⟨l.toArray⟩;rw[KH]at this;exact this z
  ·intro u;cases hb:has D (.string l)with
   |true=>rfl
   |false=>
    have t:=atKey_of_not_has hb (D9 J);have i:=h2 ⟨l.toArray⟩;rw[KH,t]at i;cases ho:f ⟨l.toArray⟩with
    |none=>exact absurd ho u
    |some b=>rw[ho]at i;simp[D9]at i
def Bo(A:ByteArray->List Pl)(ks:List ByteArray):List Mg:=ks.flatMap λs=>Ar Pl.kept (AA (A s))
theorem Jm(A:ByteArray->List Pl)(ks:List ByteArray)(s:ByteArray):Bo A (ks++[s])=Bo A ks++Ar Pl.kept (AA (A s)):=by simp[Bo]
theorem P7(a b:List Mg):AK (a++b)=AK a++AK b:=by simp[AK]
structure Ie(A:ByteArray->List Pl)(ks:List ByteArray):Prop where
 nodup:ks.Nodup
 all:∀s,s∉ks->A s=[]
 sorted:(ks.map λs=>s.1.1).Pairwise λa b=>leB a b=true
theorem Rb(A:ByteArray->List Pl)(b:∀s,(A s).length<=1000)(a:∀s,Fit (A s))(ks:List ByteArray):(Bo A ks).length<=ks.length*1000:=by
 induction ks with
 |nil=>simp[Bo]
 |cons s r ih=>
  have e:Bo A (s::r)=Ar Pl.kept (AA (A s))++Bo A r:=by simp[Bo]
  rw[e,C,List.length_cons];have h1:(Ar Pl.kept (AA (A s))).length<=(AA (A s)).length:=Ce _ _;rw[A4 (a s)]at h1;have:=b s;omega
theorem own_rowM{w:ag}{B n:Nat}{v:Value}{ms:List Mg}(h:w.ownsRow B 52 5 v n (AK ms)):(v=.slice J 0 0/\ms=[])\/∃g c,v=.slice (G ⟨g,0,J⟩) n c/\∀j u,(AK ms)[j]?=G u->w.cell? ((⟨g,0,J⟩:Addr).add j)=G u:=by
 rcases h.2 with⟨h0,h1⟩|⟨g,a,d,h0,b,hg,-⟩
 ·refine .inl ⟨h0,?_⟩;have:=h.1;rw[h1]at this;cases ms with
  |nil=>rfl
  |cons m r=>simp[AK,mc]at this
 ·refine .inr ⟨g,a,h0,λj u hj=>?_⟩;subst h0;have b:(⟨g,0,J⟩:Addr).add j=⟨g,j,J⟩:=by unfold Addr.add;split<;>simp_all
  rw[b];exact(h.cellAt j (by have:=(I.1 hj).1;have:=h.1;omega)).trans hj
theorem Wp(a:List (List UInt8)):∃ks:List ByteArray,ks.map (λs=>s.1.1)=a:=by
 refine⟨a.map (λl=>⟨l.toArray⟩),?_⟩;rw[af];induction a with
 |nil=>rfl
 |cons l r ih=>rw[List.map_cons,ih];congr 1
theorem TO{w:ag}{b n:Nat}{D:DataW Unit}(h:w.ownsMap aa 9 Z3 b n D):(E D).length=ad D:=by obtain⟨a,rfl,-⟩:=h.keysOf;simp[E,ad]
theorem Q2{w0:ag}{P0:Nat->Prop}{H M:Nat}{cs:Array Value}{A:ByteArray->List Pl}{B:Nat->List Pl}{N:Nat}(w:ag)(h:Hs w0 P0 H M cs A B N w)(hl:∀s,(A s).length<=1000)(hN:N<1000000):Calls aa 61 #[.pointer (G ⟨H,0,J⟩)] w λe w'=>∃ks v',e=.returned v'/\Hid (Ie A ks/\w'.ownsRow w.1.size 52 5 v' (Bo A ks).length (AK (Bo A ks))/\Below w.1.size w w'):=by
 obtain⟨n,f,vs,ws,h1,h2,h3⟩:=h;obtain⟨D,k,a8,c7,c6⟩:=h1.1.q.1.keys;have f0:=h1.1.q.1.lt;have e2:=h1.1.o.hlt;have d9:=(h1.1.o.1.cell 67).trans h1.1.m;have f5:ad D<=n:=k.size_le;have f2:=TO k;have a9:Hid (∀W,Calls aa 101 #[.map (G M)] W λe w'=>e=.returned (.func (.func 134) #[] #[.pointer (G ⟨W.1.size,0,J⟩)])/\w'=W.alloc (.cells #[.map (G M)] 83)):=Aa (λW=>(ae (n:=5)).1 (Tryz.maps_Keys_90 (G M) W));have b1:=Aa ((ae (n:=5)).1 (Tryz.slices_Sorted_keys_89_90 M n D Z3 w k (by unfold ah;omega) O));have HQ:Hid (∀W,Below w.1.size w W->HS W H M n cs f vs A ws B):=Aa (λW hB=>h1.below hB);have P:=Aa h1.2;have Q:=Aa hl;have b0:Hid (∀s,f s=J->A s=[]):=Aa (λs hs=>h1.nil hs);have a1:=Aa (And.intro a8 (And.intro c7 c6));obtain⟨j0,hj,c3,c4,c5⟩:=Av FR;have HJ:=Aa hj;have d3:=Aa c3;have d4:=Aa c4;have d5:=Aa c5;clear h1 h2 k a8 c7 c6 hj c3 c4 c5 hl;go_enter Tryz.func61,Tryz.ntmps61;go_wp2_with(go_at_call 101;go_must(refine(a9.o _).mono ?_);rintro e w1 ⟨rfl,rfl⟩;refine Hid.out ?_);refine Aa ?_;go_wp2_with(go_at_call 100;go_must(refine b1.o.mono ?_);rintro e w1 ⟨v,ss,rfl,d,r,d0,b9⟩;refine Hid.out ?_);refine Aa ?_;obtain⟨ks,b2⟩:=Wp (ss.mergeSort (λx y=>decide (x<=y)));have R:=Aa b2;clear b2;have b3:ks.length=ss.length:=by have:=congrArg List.length R.o;rw[List.length_map,List.length_mergeSort]at this;exact this
 have V:∀s,s∈ks↔f s≠J:=λs=>by
  have e1:s∈ks↔s.1.1∈ks.map (λs=>s.1.1):=by
   rw[T];constructor
   ·exact λhs=>⟨s,hs,rfl⟩
   ·rintro⟨t,ht,e⟩;have:t=s:=ByteArray.ext (Array.toList_inj.1 e);exact this▸ht
  rw[e1,R.o,(Y ss _).mem_iff,d.mem_iff,a1.o.2.2,Qb]
 have c0:Ie A ks:=by
  have a8:(ks.map (λs=>s.1.1)).Nodup:=by rw[R.o,(Y ss _).nodup_iff,d.nodup_iff];exact a1.o.1
  refine⟨?_,λs hs=>b0.o s ?_,?_⟩
  ·exact(ac.1 a8).imp (λe3 e=>e3 (by rw[e]))
  ·cases ho:f s with
   |none=>rfl
   |some b=>exact absurd ((V s).2 (by rw[ho];simp)) hs
  ·rw[R.o];exact List.pairwise_mergeSort (λa b c h1 h2=>by simp only[decide_eq_true_eq]at*;exact List.le_trans h1 h2) (λa b=>by simp only[Bool.or_eq_true,decide_eq_true_eq];exact List.le_total a b) ss
 have e5:ks.length<=1000000:=by have:=d.length_eq;omega
 obtain⟨a,kc,rfl⟩:=Ao r;have U:∀j s,ks[j]?=G s->∃g,a=G ⟨g,0,J⟩/\g<w1.1.size/\w1.cell? ⟨g,j,J⟩=G (.string s):=λj s hs=>by
  have f1:=(I.1 hs).1;have e1:((ss.mergeSort (λx y=>decide (x<=y))).map encStr)[j]?=G (.string s):=by rw[<-R.o,af,List.getElem?_map,hs];simp[encStr]
  rcases r.2 with⟨h0,h1⟩|⟨g,e8,e9,h0,hb,hg,-⟩
  ·omega
  ·cases h0;exact⟨g,rfl,(Array.getElem?_eq_some_iff.1 hg).1,(r.cellAt j O).trans e1⟩
 have z:Below w.1.size w w1:=Ad ((Below.refl _ _).alloc (Nat.le_refl _) _) oS b9;obtain⟨nk,S⟩:∃n,Hid (ks.length=n):=⟨_,rfl⟩;rw[<-b3,S.o];rw[S.o]at e5;have b4:=Aa U;have HMem:=Aa V;have d6:=Aa c0;have L:=Aa z;clear U V c0 z r b9 d0 d b3 a9 b1 b0;go_wp2;go_loopw[3,13] (λl i wr=>∃j:Nat,j<=nk/\i=.int .i64 j/\Hid (wr.ownsRow w1.1.size 52 5 l (Bo A (ks.take j)).length (AK (Bo A (ks.take j))))/\Below w1.1.size w1 wr) (λ_ i _=>nk-(intOf i).toNat);case atStart=>exact⟨0,Nat.zero_le _,rfl,Aa (World.ownsRow_nil _ _ _ _),Below.refl _ _⟩
 case round=>
  obtain⟨j,hj,rfl,hO,hB⟩:=hrel;by_cases e7:j<nk
  ·obtain⟨s,hs⟩:∃s,ks[j]?=G s:=⟨_,List.getElem?_eq_getElem (by rw[S.o];exact e7)⟩;obtain⟨g,rfl,e4,hc⟩:=b4.o j s hs;have q0:=(hB.cell (p:=⟨g,j,J⟩) e4).trans hc;have z:=Ad L.o L.o.4 hB;have hS:=HQ.o wr z;have b8:=(z.cell (p:=⟨H,67,J⟩) e2).trans d9;obtain⟨q,hq⟩:∃q,f s=G q:=by
    cases ho:f s with
    |none=>exact absurd ho ((HMem.o s).1 (List.mem_of_getElem? hs))
    |some q=>exact⟨q,rfl⟩
   have d2:s.size<=ah:=by have h1:=(a1.o.2.2 s.1.1).2 (by rw[Qb,hq];simp);have h2:=a1.o.2.1 _ h1;rw[Array.length_toList]at h2;exact h2
   have a7:=hS.1.q.1.look s d2;rw[hq]at a7;simp only[FX]at a7;have a3:=Aa (Hf q (vs s) (AA (A s)) wr (hS.1.q.q s q hq) (by rw[A4 (P.o s)];exact Q.o s));have b7:Hid (ks.take (j+1)=ks.take j++[s]):=Aa (by rw[List.take_add_one,hs];rfl);obtain⟨nl,a4⟩:∃n,Hid ((Bo A (ks.take j)).length=n):=⟨_,rfl⟩;have f3:nl<=1000*j:=by have h1:=Rb A Q.o P.o (ks.take j);rw[List.length_take,S.o,a4.o]at h1;have:min j nk=j:=O;rw[this]at h1;omega
   obtain⟨nt,a5⟩:∃n,Hid ((Ar Pl.kept (AA (A s))).length=n):=⟨_,rfl⟩;have f4:nt<=1000:=by have h1:=Ce Pl.kept (AA (A s));rw[A4 (P.o s),a5.o]at h1;have:=Q.o s;omega
   rw[a4.o]at hO;rw[a5.o]at a3;have HO:=hO;have b6:=Aa hB;clear hs hc hS hq d2 hO z;go_wp2_with(go_at_call 36;go_must(refine a3.o.mono ?_);rintro e w2 ⟨⟨v2,rfl,b5⟩,a6⟩;refine Hid.out ?_);refine Aa ?_;have a2:=Aa (B0 HO.o a6);have a0:Hid (Below w1.1.size w1 w2):=Aa (Ad b6.o b6.o.4 a6);have c8:w1.1.size<=w2.1.size:=a0.o.4;rcases own_rowM b5 with⟨rfl,hz⟩|⟨g2,c2,rfl,c9⟩
   ·have Hz:=Aa hz;clear b5 a6 hz a3 q0 b8 a7;go_wp2_with(at_builtin;go_must(refine wpList_append_own_none rfl _ _ 31 rfl w1.1.size 52 j0 5 ab HJ.o u3 nl _ rfl a2.o rfl ?_));go_wp2;go_roundw;case rel=>refine⟨j+1,O,by go_num,Aa ?_,a0.o⟩;rw[b7.o,Jm,Hz.o,List.append_nil,a4.o];exact a2.o
    case measure=>simp[intOf];omega
   ·have d8:=Aa c9;have e6:Hid ((AK (Ar Pl.kept (AA (A s)))).length=nt*5):=Aa (by rw[P8,a5.o]);have d1:Hid (∀u∈AK (Ar Pl.kept (AA (A s))),u.oneCell'=true):=Aa (λu hu=>by obtain⟨m,-,hm⟩:=List.mem_flatMap.1 hu;exact Cf m u hm);clear b5 a6 c9 a3 q0 b8 a7;go_wp2_with(at_builtin;go_must(refine wpList_append_own _ rfl _ _ 31 rfl w1.1.size 52 j0 _ 5 56 ab HJ.o d3.o d4.o d5.o rfl oD u3 nl _ rfl a2.o ⟨g2,0,J⟩ nt c2 (AK (Ar Pl.kept (AA (A s)))) rfl e6.o d8.o d1.o (by unfold ah;omega) O c8 ?_));intro v5 w5 X c1 _;have e0:Below w1.1.size w1 w5:=AW a0.o a2.o c1 a0.o.4 (Nat.le_refl _);have d7:=Aa X;clear X c1;go_wp2;go_roundw;case rel=>refine⟨j+1,O,by go_num,Aa ?_,e0⟩;rw[b7.o,Jm,P7,C,a4.o,a5.o];exact d7.o
    case measure=>simp[intOf];omega
  ·obtain rfl:j=nk:=O;have HT:Hid (ks.take j=ks):=Aa (List.take_of_length_le (by rw[S.o];exact Nat.le_refl _));go_wp2;go_ret;have ho:=hO.o;rw[HT.o]at ho;exact⟨ks,_,rfl,Aa ⟨d6.o,BR ho L.o.4,Ad L.o L.o.4 hB⟩⟩
end
end Go.Proofs.YtgkcfpbndgfdlaaGreatDoor
