import Derived.Test.YtkkallehdijiaaaGreatDoorZHpWd
import Derived.Laws.AppendOwnNone
set_option linter.all false
set_option maxHeartbeats 0
set_option maxRecDepth 99999
open Go renaming maxLen->F,strKeys->ab,World->ak,Value->au,callsIn_wide->av,DataW->ax
open Nat renaming le_refl->Z
open Go.Proofs.Tryz renaming underlying9->I,prog->J,underlying44->ag,underlying99->aq
open Option renaming some->G,none->Y
open Go.Maps renaming keyOf_str->E,size->an
open Go.Lit renaming string->C,sameKey->am
open Go.WideMaps renaming keyOf_string_mk->aa
open Go.Value renaming string->ac,pointer->al,func->ay,map->az,agg->aB
open List renaming mem_map->ad,getElem?_eq_some_iff->ah,pairwise_map->ai,mergeSort_perm->ao,length_append->ap,any_eq_true->ar,map_map->aw,find?->aA
open Array renaming getElem?_eq_some_iff->ae,toList_inj->aj
open ByteArray renaming ext->af
namespace Go.Proofs.YtkkallehdijiaaaGreatDoor
section
open Go.RowKit Go.Maps
theorem Ig(l:List UInt8):(⟨l.toArray⟩:ByteArray).1.1=l:=oS
theorem Re(s:ByteArray):(⟨s.1.1.toArray⟩:ByteArray)=s:=by apply af;simp
theorem QM.keys{w:ak}{M n:Nat}{f:ByteArray->Option Nat}(h:QM w M n f):∃D:ax Unit,w.ownsMap J 9 BA M n D/\(ab D).Nodup/\(∀l∈ab D,l.length<=F)/\∀l,l∈ab D↔f ⟨l.toArray⟩≠Y:=by
 obtain⟨D,d,s,t⟩:=h;refine⟨D,d,?_,strKeys_le d I,λl=>?_⟩
 ·obtain⟨r,hD,m,-⟩:=d.entries Ga;obtain⟨i,g,a⟩:=d.keysOf;obtain rfl:r=i:=by rw[hD]at g;simpa using g
  subst hD;refine ai.2 (m.imp_of_mem λ{p q} c hq k e=>k ?_);obtain⟨v,hv⟩:=a p c;obtain⟨L,o⟩:=a q hq;obtain⟨x,-,hx,-⟩:=E I hv;obtain⟨y,-,H,-⟩:=E I o;rw[hx,H]at e⊢;exact congrArg _ e
 ·have hk:l∈ab D↔has D (C l)=true:=by
   obtain⟨r,rfl,a⟩:=d.keysOf;rw[has_eq,ar];constructor
   ·intro B;obtain⟨p,c,rfl⟩:=ad.1 B;obtain⟨v,hv⟩:=a p c;obtain⟨x,-,hx,-⟩:=E I hv;exact⟨p,c,by rw[hx];simp[strOf,am]⟩
   ·rintro⟨p,c,hs⟩;obtain⟨v,hv⟩:=a p c;obtain⟨x,-,hx,-⟩:=E I hv;rw[hx]at hs;have:x=l:=by simpa[am]using hs
    exact ad.2 ⟨p,c,by rw[hx,this];rfl⟩
  rw[hk];constructor
  ·intro A;have:=t ⟨l.toArray⟩;rw[Ig]at this;exact this A
  ·intro z;cases hb:has D (C l)with
   |true=>rfl
   |false=>
    have u:=atKey_of_not_has hb (Er Y);have j:=s ⟨l.toArray⟩;rw[Ig,u]at j;cases ho:f ⟨l.toArray⟩with
    |none=>exact absurd ho z
    |some b=>rw[ho]at j;simp[Er]at j
def AW(A:ByteArray->List Pl)(ks:List ByteArray):List Mg:=ks.flatMap λs=>Ao Pl.kept (AA (A s))
theorem JT(A:ByteArray->List Pl)(ks:List ByteArray)(s:ByteArray):AW A (ks++[s])=AW A ks++Ao Pl.kept (AA (A s)):=by simp[AW]
theorem Q8(a b:List Mg):AL (a++b)=AL a++AL b:=by simp[AL]
structure D2(A:ByteArray->List Pl)(ks:List ByteArray):Prop where
 nodup:ks.Nodup
 all:∀s,s∉ks->A s=[]
 sorted:(ks.map λs=>s.1.1).Pairwise λa b=>leB a b=true
theorem SC(A:ByteArray->List Pl)(c:∀s,(A s).length<=3000)(b:∀s,Fit (A s))(ks:List ByteArray):(AW A ks).length<=ks.length*3000:=by
 induction ks with
 |nil=>simp[AW]
 |cons s r ih=>
  have e:AW A (s::r)=Ao Pl.kept (AA (A s))++AW A r:=by simp[AW]
  rw[e,ap,List.length_cons];have a:(Ao Pl.kept (AA (A s))).length<=(AA (A s)).length:=B7 _ _;rw[AX (b s)]at a;have:=c s;omega
theorem own_rowM{w:ak}{B n:Nat}{v:au}{ms:List Mg}(h:w.ownsRow B 95 5 v n (AL ms)):(v=.slice Y 0 0/\ms=[])\/∃g c,v=.slice (G ⟨g,0,Y⟩) n c/\∀j u,(AL ms)[j]?=G u->w.cell? ((⟨g,0,Y⟩:Addr).add j)=G u:=by
 rcases h.2 with⟨a,e⟩|⟨g,b,cur,a,d,f,-⟩
 ·refine .inl ⟨a,?_⟩;have:=h.1;rw[e]at this;cases ms with
  |nil=>rfl
  |cons m r=>simp[AL,mc]at this
 ·refine .inr ⟨g,b,a,λj u hj=>?_⟩;subst a;have d:(⟨g,0,Y⟩:Addr).add j=⟨g,j,Y⟩:=by unfold Addr.add;split<;>simp_all
  rw[d];exact(h.cellAt j (by have:=(ah.1 hj).1;have:=h.1;omega)).trans hj
theorem Ym(a:List (List UInt8)):∃ks:List ByteArray,ks.map (λs=>s.1.1)=a:=by
 refine⟨a.map (λl=>⟨l.toArray⟩),?_⟩;rw[aw];induction a with
 |nil=>rfl
 |cons l r ih=>rw[List.map_cons,ih];congr 1
theorem Vq{w:ak}{b n:Nat}{D:ax Unit}(h:w.ownsMap J 9 BA b n D):(ab D).length=an D:=by obtain⟨a,rfl,-⟩:=h.keysOf;simp[ab,an]
theorem Sq{w0:ak}{P0:Nat->Prop}{H M:Nat}{cs:Array au}{A:ByteArray->List Pl}{B:Nat->List Pl}{N:Nat}(w:ak)(h:Hs w0 P0 H M cs A B N w)(hl:∀s,(A s).length<=3000)(hN:N<1000000):Calls J 72 #[al (G ⟨H,0,Y⟩)] w λe w'=>∃ks v',e=.returned v'/\Hid (D2 A ks/\w'.ownsRow w.1.size 95 5 v' (AW A ks).length (AL (AW A ks))/\Below w.1.size w w'):=by
 obtain⟨n,f,vs,ws,d,h2,h3⟩:=h;obtain⟨D,r,a9,c8,c7⟩:=d.1.q.1.keys;have f3:=d.1.q.1.lt;have e4:=d.1.o.hlt;have e0:=(d.1.o.1.cell 67).trans d.1.m;have f8:an D<=n:=r.size_le;have f5:=Vq r;have b0:Hid (∀W,Calls J 125 #[az (G M)] W λe w'=>e=.returned (ay (.func 187) #[] #[al (G ⟨W.1.size,0,Y⟩)])/\w'=W.alloc (.cells #[az (G M)] 125)):=Aa (λW=>(av (n:=5)).1 (Tryz.maps_Keys_90 (G M) W));have b2:=Aa ((av (n:=5)).1 (Tryz.slices_Sorted_keys_89_90 M n D BA w r (by unfold F;omega) O));have HQ:Hid (∀W,Below w.1.size w W->HS W H M n cs f vs A ws B):=Aa (λW hB=>d.below hB);have Q:=Aa d.2;have R:=Aa hl;have b1:Hid (∀s,f s=Y->A s=[]):=Aa (λs hs=>d.nil hs);have a2:=Aa (And.intro a9 (And.intro c8 c7));obtain⟨j0,hj,c4,c5,c6⟩:=Aw F8;have HJ:=Aa hj;have d4:=Aa c4;have d5:=Aa c5;have d6:=Aa c6;clear d h2 r a9 c8 c7 hj c4 c5 c6 hl;go_enter Tryz.func72,Tryz.ntmps72;go_wp2_with(go_at_call 125;go_must(refine(b0.o _).mono ?_);rintro e w1 ⟨rfl,rfl⟩;refine Hid.out ?_);refine Aa ?_;go_wp2_with(go_at_call 77;go_must(refine b2.o.mono ?_);rintro e w1 ⟨v,ss,rfl,k,z,d1,c0⟩;refine Hid.out ?_);refine Aa ?_;obtain⟨ks,b3⟩:=Ym (ss.mergeSort (λx y=>decide (x<=y)));have S:=Aa b3;clear b3;have b4:ks.length=ss.length:=by have:=congrArg List.length S.o;rw[List.length_map,List.length_mergeSort]at this;exact this
 have X:∀s,s∈ks↔f s≠Y:=λs=>by
  have e1:s∈ks↔s.1.1∈ks.map (λs=>s.1.1):=by
   rw[ad];constructor
   ·exact λhs=>⟨s,hs,rfl⟩
   ·rintro⟨t,ht,e⟩;have:t=s:=af (aj.1 e);exact this▸ht
  rw[e1,S.o,(ao ss _).mem_iff,k.mem_iff,a2.o.2.2,Re]
 have c1:D2 A ks:=by
  have a9:(ks.map (λs=>s.1.1)).Nodup:=by rw[S.o,(ao ss _).nodup_iff,k.nodup_iff];exact a2.o.1
  refine⟨?_,λs hs=>b1.o s ?_,?_⟩
  ·exact(ai.1 a9).imp (λe5 e=>e5 (by rw[e]))
  ·cases ho:f s with
   |none=>rfl
   |some b=>exact absurd ((X s).2 (by rw[ho];simp)) hs
  ·rw[S.o];exact List.pairwise_mergeSort (λa b c d h2=>by simp only[decide_eq_true_eq]at*;exact List.le_trans d h2) (λa b=>by simp only[Bool.or_eq_true,decide_eq_true_eq];exact List.le_total a b) ss
 have e7:ks.length<=1000000:=by have:=k.length_eq;omega
 obtain⟨a,kc,rfl⟩:=Ar z;have V:∀j s,ks[j]?=G s->∃g,a=G ⟨g,0,Y⟩/\g<w1.1.size/\w1.cell? ⟨g,j,Y⟩=G (ac s):=λj s hs=>by
  have f4:=(ah.1 hs).1;have e1:((ss.mergeSort (λx y=>decide (x<=y))).map encStr)[j]?=G (ac s):=by rw[<-S.o,aw,List.getElem?_map,hs];simp[encStr]
  rcases z.2 with⟨h0,d⟩|⟨g,f0,cur,h0,hb,hg,-⟩
  ·omega
  ·cases h0;exact⟨g,rfl,(ae.1 hg).1,(z.cellAt j O).trans e1⟩
 have L:Below w.1.size w w1:=Ab ((Below.refl _ _).alloc (Z _) _) oS c0;obtain⟨nk,U⟩:∃n,Hid (ks.length=n):=⟨_,rfl⟩;rw[<-b4,U.o];rw[U.o]at e7;have b5:=Aa V;have HMem:=Aa X;have d7:=Aa c1;have P:=Aa L;clear V X c1 L z c0 d1 k b4 b0 b2 b1;go_wp2;go_loopw[3,13] (λl i wr=>∃j:Nat,j<=nk/\i=.int .i64 j/\Hid (wr.ownsRow w1.1.size 95 5 l (AW A (ks.take j)).length (AL (AW A (ks.take j))))/\Below w1.1.size w1 wr) (λ_ i _=>nk-(intOf i).toNat);case atStart=>exact⟨0,Nat.zero_le _,rfl,Aa (World.ownsRow_nil _ _ _ _),Below.refl _ _⟩
 case round=>
  obtain⟨j,hj,rfl,hO,hB⟩:=hrel;by_cases e9:j<nk
  ·obtain⟨s,hs⟩:∃s,ks[j]?=G s:=⟨_,List.getElem?_eq_getElem (by rw[U.o];exact e9)⟩;obtain⟨g,rfl,e6,hc⟩:=b5.o j s hs;have q0:=(hB.cell (p:=⟨g,j,Y⟩) e6).trans hc;have L:=Ab P.o P.o.4 hB;have hS:=HQ.o wr L;have b9:=(L.cell (p:=⟨H,67,Y⟩) e4).trans e0;obtain⟨q,hq⟩:∃q,f s=G q:=by
    cases ho:f s with
    |none=>exact absurd ho ((HMem.o s).1 (List.mem_of_getElem? hs))
    |some q=>exact⟨q,rfl⟩
   have d3:s.size<=F:=by have d:=(a2.o.2.2 s.1.1).2 (by rw[Re,hq];simp);have h2:=a2.o.2.1 _ d;rw[Array.length_toList]at h2;exact h2
   have a8:=hS.1.q.1.look s d3;rw[hq]at a8;simp only[Gf]at a8;have a4:=Aa (Im q (vs s) (AA (A s)) wr (hS.1.q.q s q hq) (by rw[AX (Q.o s)];exact R.o s));have b8:Hid (ks.take (j+1)=ks.take j++[s]):=Aa (by rw[List.take_add_one,hs];rfl);obtain⟨nl,a5⟩:∃n,Hid ((AW A (ks.take j)).length=n):=⟨_,rfl⟩;have f6:nl<=3000*j:=by have d:=SC A R.o Q.o (ks.take j);rw[List.length_take,U.o,a5.o]at d;have:min j nk=j:=O;rw[this]at d;omega
   obtain⟨nt,a6⟩:∃n,Hid ((Ao Pl.kept (AA (A s))).length=n):=⟨_,rfl⟩;have f7:nt<=3000:=by have d:=B7 Pl.kept (AA (A s));rw[AX (Q.o s),a6.o]at d;have:=R.o s;omega
   rw[a5.o]at hO;rw[a6.o]at a4;have HO:=hO;have b7:=Aa hB;clear hs hc hS hq d3 hO L;go_wp2_with(go_at_call 126;go_must(refine a4.o.mono ?_);rintro e w2 ⟨⟨v2,rfl,b6⟩,a7⟩;refine Hid.out ?_);refine Aa ?_;have a3:=Aa (Ce HO.o a7);have a1:Hid (Below w1.1.size w1 w2):=Aa (Ab b7.o b7.o.4 a7);have c9:w1.1.size<=w2.1.size:=a1.o.4;rcases own_rowM b6 with⟨rfl,hz⟩|⟨g2,c2,rfl,d0⟩
   ·have Hz:=Aa hz;clear b6 a7 hz a4 q0 b9 a8;go_wp2_with(at_builtin;go_must(refine wpList_append_own_none rfl _ _ 99 rfl w1.1.size 95 j0 5 aq HJ.o u3 nl _ rfl a3.o rfl ?_));go_wp2;go_roundw;case rel=>refine⟨j+1,O,by go_num,Aa ?_,a1.o⟩;rw[b8.o,JT,Hz.o,List.append_nil,a5.o];exact a3.o
    case measure=>simp[intOf];omega
   ·have d9:=Aa d0;have e8:Hid ((AL (Ao Pl.kept (AA (A s)))).length=nt*5):=Aa (by rw[Q9,a6.o]);have d2:Hid (∀u∈AL (Ao Pl.kept (AA (A s))),u.oneCell'=true):=Aa (λu hu=>by obtain⟨m,-,hm⟩:=List.mem_flatMap.1 hu;exact Ek m u hm);clear b6 a7 d0 a4 q0 b9 a8;go_wp2_with(at_builtin;go_must(refine wpList_append_own _ rfl _ _ 99 rfl w1.1.size 95 j0 _ 5 56 aq HJ.o d4.o d5.o d6.o rfl oD u3 nl _ rfl a3.o ⟨g2,0,Y⟩ nt c2 (AL (Ao Pl.kept (AA (A s)))) rfl e8.o d9.o d2.o (by unfold F;omega) O c9 ?_));intro v5 w5 a0 c3 _;have e3:Below w1.1.size w1 w5:=AJ a1.o a3.o c3 a1.o.4 (Z _);have d8:=Aa a0;clear a0 c3;go_wp2;go_roundw;case rel=>refine⟨j+1,O,by go_num,Aa ?_,e3⟩;rw[b8.o,JT,Q8,ap,a5.o,a6.o];exact d8.o
    case measure=>simp[intOf];omega
  ·obtain rfl:j=nk:=O;have HT:Hid (ks.take j=ks):=Aa (List.take_of_length_le (by rw[U.o];exact Z _));go_wp2;go_ret;have ho:=hO.o;rw[HT.o]at ho;exact⟨ks,_,rfl,Aa ⟨d7.o,Be ho P.o.4,Ab P.o P.o.4 hB⟩⟩
def QP:List (ByteArray×Nat×ByteArray):=[(⟨#[119,111,114,108,100]⟩,22,⟨#[78]⟩),(⟨#[110,97,109,101]⟩,23,⟨#[75,32,78,65,77,69,32,84,79,32,72,79,85,83,69]⟩),(⟨#[117,110,110,97,109,101]⟩,24,⟨#[75,32,78,65,77,69]⟩),(⟨#[99,111,109,109,105,116]⟩,25,⟨#[75,32,85,78,73,84]⟩),(⟨#[98,97,99,107]⟩,26,⟨#[75,32,85,78,73,84]⟩),(⟨#[99,117,116]⟩,27,⟨#[75,32,87,82,73,84,69,83,32,84,79,82,78]⟩),(⟨#[114,101,115,116,97,114,116]⟩,28,⟨#[75]⟩),(⟨#[115,101,110,100]⟩,29,⟨#[75,32,72,79,85,83,69]⟩),(⟨#[100,101,108,105,118,101,114]⟩,30,⟨#[73]⟩),(⟨#[108,111,115,101]⟩,31,⟨#[73]⟩),(⟨#[116,119,105,99,101]⟩,32,⟨#[73]⟩),(⟨#[99,97,108,109]⟩,33,⟨#[82,79,85,78,68,83]⟩),(⟨#[112,117,116]⟩,34,⟨#[75,32,85,78,73,84,32,78,65,77,69,32,80,82,73,79,82,73,84,89,32,66,79,68,89]⟩),(⟨#[103,101,116]⟩,35,⟨#[75,32,85,78,73,84,32,78,65,77,69]⟩),(⟨#[110,97,109,101,115]⟩,36,⟨#[75]⟩),(⟨#[116,104,101,114,101]⟩,37,⟨#[75,32,78,65,77,69]⟩),(⟨#[107,101,112,116]⟩,38,⟨#[75]⟩),(⟨#[119,97,105,116,115]⟩,39,⟨#[75,32,72,79,85,83,69]⟩),(⟨#[108,101,100,103,101,114]⟩,40,⟨#[]⟩),(⟨#[109,97,110,121]⟩,41,⟨#[]⟩),(⟨#[104,101,108,112]⟩,42,⟨#[]⟩)]
def E6:List (ByteArray×Nat):=QP.map λx=>(x.1,x.2.1)
def BP(f:Nat):ByteArray:=((QP.find? λx=>x.2.1==f).map λx=>x.2.2).getD ⟨#[]⟩
def EE(T:List (ByteArray×Nat))(s:ByteArray):Option Nat:=(T.find? λx=>decide (x.1=s)).map λx=>x.2
theorem LX{T:List (ByteArray×Nat)}{k:ByteArray}(f:Nat)(hk:EE T k=Y)(s:ByteArray):EE (T++[(k,f)]) s=if s=k then G f else EE T s:=by
 unfold EE at hk⊢;rw[List.find?_append];by_cases e:s=k
 ·subst e;rw[if_pos rfl,Option.map_eq_none_iff.1 hk];simp[aA]
 ·rw[if_neg e];have:aA (λx:ByteArray×Nat=>decide (x.1=s)) [(k,f)]=Y:=by simp only[List.find?_cons,List.find?_nil];rw[show decide (k=s)=false from decide_eq_false (λq=>e q.symm)]
  rw[this,Option.or_none]
def Gu:Option Nat->ax Unit
 |some f=>.lit (.int .i64 (f:Int))
 |none=>.lit (.bool false)
def Zx(S f:Nat):au:=aB #[ac (BP f),ay (.func f) #[al (G ⟨S,0,Y⟩)] #[]]
def UL:au:=aB #[ac ⟨#[]⟩,.nilFunc]
def FW(S:Nat)(v:Value):Option (DataW Unit×List MemPlace):=match v with
 |.agg ⟨[.string form,.func (.func f) ⟨[.pointer (some ⟨S',0,none⟩)]⟩ ⟨[]⟩]⟩=>if form=BP f/\S'=S then some (Gu (some f),[])else none
 |.agg ⟨[.string ⟨⟨[]⟩⟩,.nilFunc]⟩=>some (Gu none,[])
 |_=>none
theorem Uy(S f:Nat):FW S (Zx S f)=G (Gu (G f),[]):=by show(if BP f=BP f/\S=S then G (Gu (G f),[])else Y)=_;rw[if_pos ⟨rfl,rfl⟩]
theorem JD(S:Nat):FW S UL=G (Gu Y,[]):=rfl
theorem UA{f g:Nat}(h:Gu (G f)=Gu (G g)):f=g:=by simp only[Gu,DataW.lit.injEq,Lit.int.injEq,true_and]at h;omega
theorem Pp{S f:Nat}{v:au}{ps:List MemPlace}(h:FW S v=G (Gu (G f),ps)):v=Zx S f:=by
 unfold FW at h;split at h
 ·split at h
  ·rename_i hc;injection h with h;injection h with h1 h2;obtain rfl:=UA h1;obtain⟨rfl,rfl⟩:=hc;rfl
  ·cases h
 ·injection h with h;injection h with h1 h2;simp[Gu]at h1
 ·cases h
theorem Po{S:Nat}{v:au}{ps:List MemPlace}(h:FW S v=G (Gu Y,ps)):v=UL:=by
 unfold FW at h;split at h
 ·split at h
  ·injection h with h;injection h with h1 h2;simp[Gu]at h1
  ·cases h
 ·rfl
 ·cases h
theorem Xj(w:ak):(zeroValue 59).run J w=.ok UL w:=K
def DeQ(S:Nat)(w:ak)(M n:Nat)(T:List (ByteArray×Nat)):Prop:=∃D:ax Unit,w.ownsMap J 9 (FW S) M n D/\(∀s:ByteArray,D.atKey (C s.1.1) (Gu Y)=Gu (EE T s))/\∀s:ByteArray,has D (C s.1.1)=(EE T s).isSome
section
variable{S M n:Nat}{w w':ak}{T:List (ByteArray×Nat)}
theorem DeQ.made(S:Nat)(w:ak):DeQ S (w.alloc (.map #[] 0)) w.1.size 0 []:=⟨.map [],World.ownsMap_made w J 9 (FW S),λ_=>rfl,λ_=>by simp[has,EE]⟩
theorem DeQ.on(h:DeQ S w M n T)(f:w'.1[M]?=w.1[M]?):DeQ S w' M n T:=by obtain⟨D,⟨b,a,c,d⟩,e⟩:=h;exact⟨D,⟨b,a,f.trans c,d⟩,e⟩
theorem DeQ.lt(h:DeQ S w M n T):M<w.1.size:=by obtain⟨D,⟨c,a,b,d⟩,e⟩:=h;exact(ae.1 b).1
theorem DeQ.put(h:DeQ S w M n T)(o:n<F)(k:ByteArray)(f:Nat){form:ByteArray}(l:BP f=form)(hk:EE T k=Y)(hs:k.size<=F):∃w',(Instr.mapUpdate 44 (az (G M)) (ac k) (aB #[ac form,ay (.func f) #[al (G ⟨S,0,Y⟩)] #[]])).run J w=.ok () w'/\DeQ S w' M (n+1) (T++[(k,f)])/\w.grownBy w' (G M):=by
 subst l;obtain⟨D,g,i,j⟩:=h;obtain⟨w',d,c,m⟩:=g.update Ga ag o (aa I hs) (Uy S f);have b:WideAt.IsKeyLit (C k.1.1):=trivial;refine⟨w',d,⟨_,c,λt=>?_,λt=>?_⟩,m⟩
 ·rw[LX f hk];by_cases e:t=k
  ·subst e;rw[atKey_put_same g.isMap b,if_pos rfl]
  ·have a:(C t.1.1)≠C k.1.1:=λe2=>e (af (aj.1 (by injection e2)));rw[atKey_put_other a,i t,if_neg e]
 ·rw[LX f hk];by_cases e:t=k
  ·subst e;rw[has_put_same g.isMap b,if_pos rfl];rfl
  ·have a:(C t.1.1)≠C k.1.1:=λe2=>e (af (aj.1 (by injection e2)));rw[has_put_other a,j t,if_neg e]
theorem DeQ.look(h:DeQ S w M n T){s:ByteArray}(hs:s.size<=F){f:Nat}(b:EE T s=G f):(Instr.lookup 44 (az (G M)) (ac s) true).run J w=.ok (.tuple #[aB #[ac (BP f),ay (.func f) #[al (G ⟨S,0,Y⟩)] #[]],.bool true]) w:=by obtain⟨D,e,c,d⟩:=h;obtain⟨v,ps,a,hv⟩:=e.look_ok Ga ag (Xj w) (JD S) (aa I hs);rw[c s,b]at hv;rw[a,Pp hv,d s,b];rfl
theorem DeQ.no(h:DeQ S w M n T){s:ByteArray}(hs:s.size<=F)(b:EE T s=Y):(Instr.lookup 44 (az (G M)) (ac s) true).run J w=.ok (.tuple #[aB #[ac ⟨#[]⟩,.nilFunc],.bool false]) w:=by obtain⟨D,e,c,d⟩:=h;obtain⟨v,ps,a,hv⟩:=e.look_ok Ga ag (Xj w) (JD S) (aa I hs);rw[c s,b]at hv;rw[a,Po hv,d s,b];rfl
theorem DeQ.keys(h:DeQ S w M n T):∃D:ax Unit,w.ownsMap J 9 (FW S) M n D/\(ab D).Nodup/\(ab D).length=an D/\∀l,l∈ab D↔EE T ⟨l.toArray⟩≠Y:=by
 obtain⟨D,c,s,m⟩:=h;refine⟨D,c,?_,?_,λl=>?_⟩
 ·obtain⟨f,hD,j,-⟩:=c.entries Ga;obtain⟨g,d,a⟩:=c.keysOf;obtain rfl:f=g:=by rw[hD]at d;simpa using d
  subst hD;refine ai.2 (j.imp_of_mem λ{p q} b hq i e=>i ?_);obtain⟨v,hv⟩:=a p b;obtain⟨t,k⟩:=a q hq;obtain⟨x,-,hx,-⟩:=E I hv;obtain⟨y,-,r,-⟩:=E I k;rw[hx,r]at e⊢;exact congrArg _ e
 ·obtain⟨f,rfl,-⟩:=c.keysOf;simp[ab,an]
 ·have hk:l∈ab D↔has D (C l)=true:=by
   obtain⟨f,rfl,a⟩:=c.keysOf;rw[has_eq,ar];constructor
   ·intro o;obtain⟨p,b,rfl⟩:=ad.1 o;obtain⟨v,hv⟩:=a p b;obtain⟨x,-,hx,-⟩:=E I hv;exact⟨p,b,by rw[hx];simp[strOf,am]⟩
   ·rintro⟨p,b,hs⟩;obtain⟨v,hv⟩:=a p b;obtain⟨x,-,hx,-⟩:=E I hv;rw[hx]at hs;exact ad.2 ⟨p,b,by rw[hx];simpa[strOf,am]using hs⟩
  rw[hk,show C l=C (⟨l.toArray⟩:ByteArray).1.1 by rw[Ig],m];cases EE T ⟨l.toArray⟩<;>simp
end
theorem Mn(S:Nat)(w:ak):Calls J 13 #[al (G ⟨S,0,Y⟩)] w λe w'=>e=.returned (az (G w.1.size))/\Hid (DeQ S w' w.1.size 21 E6/\Below w.1.size w w'):=by have a8:∀(fn:Fn) (first B:Array au) (w:ak),(Instr.makeFunc fn first B).run J w=.ok (ay fn first B) w:=λ_ _ _ _=>rfl;have a9:=@run_makeMap J;have q:Below w.1.size w (w.alloc (.map #[] 0)):=(Below.refl _ _).alloc (Z _) _;obtain⟨w1,r1,q1,g1⟩:=(DeQ.made S w).put (by unfold F;omega) ⟨#[119,111,114,108,100]⟩ 22 (form:=⟨#[78]⟩) rfl (by rfl) (by unfold F;decide);obtain⟨w2,r2,q2,g2⟩:=q1.put (by unfold F;omega) ⟨#[110,97,109,101]⟩ 23 (form:=⟨#[75,32,78,65,77,69,32,84,79,32,72,79,85,83,69]⟩) rfl (by rfl) (by unfold F;decide);obtain⟨w3,r3,q3,g3⟩:=q2.put (by unfold F;omega) ⟨#[117,110,110,97,109,101]⟩ 24 (form:=⟨#[75,32,78,65,77,69]⟩) rfl (by rfl) (by unfold F;decide);obtain⟨w4,r4,q4,g4⟩:=q3.put (by unfold F;omega) ⟨#[99,111,109,109,105,116]⟩ 25 (form:=⟨#[75,32,85,78,73,84]⟩) rfl (by rfl) (by unfold F;decide);obtain⟨w5,r5,q5,g5⟩:=q4.put (by unfold F;omega) ⟨#[98,97,99,107]⟩ 26 (form:=⟨#[75,32,85,78,73,84]⟩) rfl (by rfl) (by unfold F;decide);obtain⟨w6,r6,q6,g6⟩:=q5.put (by unfold F;omega) ⟨#[99,117,116]⟩ 27 (form:=⟨#[75,32,87,82,73,84,69,83,32,84,79,82,78]⟩) rfl (by rfl) (by unfold F;decide);obtain⟨w7,r7,q7,g7⟩:=q6.put (by unfold F;omega) ⟨#[114,101,115,116,97,114,116]⟩ 28 (form:=⟨#[75]⟩) rfl (by rfl) (by unfold F;decide);obtain⟨w8,r8,q8,g8⟩:=q7.put (by unfold F;omega) ⟨#[115,101,110,100]⟩ 29 (form:=⟨#[75,32,72,79,85,83,69]⟩) rfl (by rfl) (by unfold F;decide);obtain⟨w9,r9,q9,g9⟩:=q8.put (by unfold F;omega) ⟨#[100,101,108,105,118,101,114]⟩ 30 (form:=⟨#[73]⟩) rfl (by rfl) (by unfold F;decide);obtain⟨c2,b0,U,D⟩:=q9.put (by unfold F;omega) ⟨#[108,111,115,101]⟩ 31 (form:=⟨#[73]⟩) rfl (by rfl) (by unfold F;decide);obtain⟨c3,b1,V,H⟩:=U.put (by unfold F;omega) ⟨#[116,119,105,99,101]⟩ 32 (form:=⟨#[73]⟩) rfl (by rfl) (by unfold F;decide);obtain⟨c4,b2,W,L⟩:=V.put (by unfold F;omega) ⟨#[99,97,108,109]⟩ 33 (form:=⟨#[82,79,85,78,68,83]⟩) rfl (by rfl) (by unfold F;decide);obtain⟨c5,b3,X,N⟩:=W.put (by unfold F;omega) ⟨#[112,117,116]⟩ 34 (form:=⟨#[75,32,85,78,73,84,32,78,65,77,69,32,80,82,73,79,82,73,84,89,32,66,79,68,89]⟩) rfl (by rfl) (by unfold F;decide);obtain⟨c6,b4,a0,P⟩:=X.put (by unfold F;omega) ⟨#[103,101,116]⟩ 35 (form:=⟨#[75,32,85,78,73,84,32,78,65,77,69]⟩) rfl (by rfl) (by unfold F;decide);obtain⟨c7,b5,a1,g15⟩:=a0.put (by unfold F;omega) ⟨#[110,97,109,101,115]⟩ 36 (form:=⟨#[75]⟩) rfl (by rfl) (by unfold F;decide);obtain⟨c8,b6,a2,g16⟩:=a1.put (by unfold F;omega) ⟨#[116,104,101,114,101]⟩ 37 (form:=⟨#[75,32,78,65,77,69]⟩) rfl (by rfl) (by unfold F;decide);obtain⟨c9,b7,a3,g17⟩:=a2.put (by unfold F;omega) ⟨#[107,101,112,116]⟩ 38 (form:=⟨#[75]⟩) rfl (by rfl) (by unfold F;decide);obtain⟨d0,b8,a4,g18⟩:=a3.put (by unfold F;omega) ⟨#[119,97,105,116,115]⟩ 39 (form:=⟨#[75,32,72,79,85,83,69]⟩) rfl (by rfl) (by unfold F;decide);obtain⟨d1,b9,a5,g19⟩:=a4.put (by unfold F;omega) ⟨#[108,101,100,103,101,114]⟩ 40 (form:=⟨#[]⟩) rfl (by rfl) (by unfold F;decide);obtain⟨d2,c0,a6,Q⟩:=a5.put (by unfold F;omega) ⟨#[109,97,110,121]⟩ 41 (form:=⟨#[]⟩) rfl (by rfl) (by unfold F;decide);obtain⟨d3,c1,a7,R⟩:=a6.put (by unfold F;omega) ⟨#[104,101,108,112]⟩ 42 (form:=⟨#[]⟩) rfl (by rfl) (by unfold F;decide);have r:=q.grown g1 q.4 (λk e=>by cases e;exact Z _);have s:=r.grown g2 r.4 (λk e=>by cases e;exact Z _);have t:=s.grown g3 s.4 (λk e=>by cases e;exact Z _);have u:=t.grown g4 t.4 (λk e=>by cases e;exact Z _);have v:=u.grown g5 u.4 (λk e=>by cases e;exact Z _);have x:=v.grown g6 v.4 (λk e=>by cases e;exact Z _);have y:=x.grown g7 x.4 (λk e=>by cases e;exact Z _);have z:=y.grown g8 y.4 (λk e=>by cases e;exact Z _);have A:=z.grown g9 z.4 (λk e=>by cases e;exact Z _);have a:=A.grown D A.4 (λk e=>by cases e;exact Z _);have b:=a.grown H a.4 (λk e=>by cases e;exact Z _);have c:=b.grown L b.4 (λk e=>by cases e;exact Z _);have d:=c.grown N c.4 (λk e=>by cases e;exact Z _);have f:=d.grown P d.4 (λk e=>by cases e;exact Z _);have g:=f.grown g15 f.4 (λk e=>by cases e;exact Z _);have h:=g.grown g16 g.4 (λk e=>by cases e;exact Z _);have i:=h.grown g17 h.4 (λk e=>by cases e;exact Z _);have j:=i.grown g18 i.4 (λk e=>by cases e;exact Z _);have l:=j.grown g19 j.4 (λk e=>by cases e;exact Z _);have m:=l.grown Q l.4 (λk e=>by cases e;exact Z _);have p:=m.grown R m.4 (λk e=>by cases e;exact Z _);have HQ:=Aa (And.intro a7 p);clear q1 q2 q3 q4 q5 q6 q7 q8 q9 U V W X a0 a1 a2 a3 a4 a5 a6 a7 g1 g2 g3 g4 g5 g6 g7 g8 g9 D H L N P g15 g16 g17 g18 g19 Q R q r s t u v x y z A a b c d f g h i j l m p;go_enter Tryz.func13,Tryz.ntmps13;go_wp2;go_ret;exact⟨rfl,Aa ⟨HQ.o.1,HQ.o.2⟩⟩
def II:List (List UInt8):=[[98,97,99,107],[99,97,108,109],[99,111,109,109,105,116],[99,117,116],[100,101,108,105,118,101,114],[103,101,116],[104,101,108,112],[107,101,112,116],[108,101,100,103,101,114],[108,111,115,101],[109,97,110,121],[110,97,109,101],[110,97,109,101,115],[112,117,116],[114,101,115,116,97,114,116],[115,101,110,100],[116,104,101,114,101],[116,119,105,99,101],[117,110,110,97,109,101],[119,97,105,116,115],[119,111,114,108,100]]
def Lm:ByteArray:=⟨#[98,97,99,107,32,99,97,108,109,32,99,111,109,109,105,116,32,99,117,116,32,100,101,108,105,118,101,114,32,103,101,116,32,104,101,108,112,32,107,101,112,116,32,108,101,100,103,101,114,32,108,111,115,101,32,109,97,110,121,32,110,97,109,101,32,110,97,109,101,115,32,112,117,116,32,114,101,115,116,97,114,116,32,115,101,110,100,32,116,104,101,114,101,32,116,119,105,99,101,32,117,110,110,97,109,101,32,119,97,105,116,115,32,119,111,114,108,100]⟩
end
end Go.Proofs.YtkkallehdijiaaaGreatDoor
