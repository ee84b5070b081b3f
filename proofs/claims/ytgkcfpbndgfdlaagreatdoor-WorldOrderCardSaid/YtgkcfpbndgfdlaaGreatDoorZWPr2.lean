import Derived.Test.YtgkcfpbndgfdlaaGreatDoorZWMem
set_option linter.all false
set_option maxHeartbeats 0
set_option maxRecDepth 99999
open Classical renaming propDecidable->F,byContradiction->bi
open Option renaming some->I,none->E,toList_some->bQ
open Go.IntKind renaming i64->G,wrap_i64->ao
open Go.Value renaming int->Y,pointer->ah,slice->aj,string->am,tuple->az,nilIface->aQ,bool->bq,func->br,iface->cf,agg->ct
open List renaming getElem?_eq_some_iff->aa,getElem?_eq_getElem->ad,length_append->ae,append_assoc->al,length_take->au,getElem?_append_right->av,getElem?_append_left->aC,take_append_drop->aD,length_drop->aH,pairwise_append->aI,take_of_length_le->aK,mem_append->aM,mem_iff_getElem->aN,length_eq_zero_iff->aP,getElem?_set_self->aR,drop_eq_getElem_cons->aT,length_set->aU,replicate->aV,take_add_one->aW,length_singleton->aZ,getElem?_set_ne->bk,mem_of_getElem?->bo,mem_map->bt,mem_singleton->bv,drop_eq_nil_of_le->bx,pairwise_map->bA,set_append_right->bB,mem_append_left->bD,pairwise_iff_getElem->bF,append_nil->bG,mem_filter->bH,length_cons->bK,mem_append_right->bL,mem_flatMap->bM,pairwise_flatten->bN,drop_append_of_le_length->bP,perm_append_singleton->bR,setIfInBounds_toArray->bS,getElem_drop->bT,getElem_take->bU,getLast?_eq_some_iff->bV,mem_cons->bW,mem_of_find?_eq_some->bY,length_eq_one_iff->cb,length_map->cc,map_append->cd,getElem?_toArray->ch,drop_drop->co,getElem?_of_mem->cq,getElem?_drop->cx,pairwise_cons->cy,drop_sublist->cF,flatten_cons->cG,getElem?_map->cH,take_sublist->cI,flatMap_def->cK,flatten_nil->cL,perm_middle->cM,find?_some->cO,length_nil->cP,nil_append->cQ,nodup_nil->cR,map_map->da,range->di
open Go.Proofs.Tryz renaming prog->ab,ntmps63->ca,func63->ce,ntmps139->cr,func139->cz,ntmps57->cA,underlying31->cC,func57->cJ,ntmps106->cS,ntmps138->cT,func106->cU,func138->cV,ntmps22->cX,ntmps25->cY,ntmps64->cZ,func22->de,func25->df,func64->dg
open Go.Ending renaming returned->ac
open Option.some renaming inj->af,injEq->dk
open Nat renaming le_refl->ag,lt_of_lt_of_le->ay,zero_le->aO,le_trans->bu,sub_self->bJ,add_mul->ci,le_succ->cj,one_mul->ck,add_assoc->cu,succ_mul->dc
open Bool renaming false->ai,true->aE
open Go.RowKit.Hid renaming out->ak
open Int renaming toNat_natCast->an,le_refl->bg,le_trans->bI,le_of_lt->cB
open Go renaming Calls->aq,World->ax,Value->bj,maxLen->cg,madeCells->cD,wpList_append_own->cE,wpList->dh
open Or renaming inl->aw,inr->aG
open Go.RowKit renaming Below->aA
open Go.RowKit.Below renaming refl->aB,drew->aS
open Go.Proofs.YtgkcfpbndgfdlaaGreatDoor.Only renaming of_below->aF,refl->bz,of_grown->bE
open Sum renaming inl->aJ,inr->aL
open Array renaming getElem?_eq_some_iff->aX
open Decidable renaming decide->aY
open Go.World renaming ownsRow_nil->ba,cell?_of_block->cp
open Go.Obj renaming cells->bb
open Go.Proofs.YtgkcfpbndgfdlaaGreatDoor.HW renaming wr_yes->bc,wr_torn->bZ,wr_no->cw,st->dj
open Go.Proofs.YtgkcfpbndgfdlaaGreatDoor.Pl renaming free->bd,kept->bf,m->dm
open List.Perm renaming append_left->bh,refl->cm,trans->cN,append_right->dd
open Go.Fn renaming func->bp
open Go.Proofs renaming intOf->bw
open Go.Proofs.YtgkcfpbndgfdlaaGreatDoor renaming Gy->bC
open Sum.inr renaming inj->bO
open Go.Proofs.Tryz
namespace Go.Proofs.YtgkcfpbndgfdlaaGreatDoor
section
open Go.RowKit Go.Maps
def WSt.setH(s:WSt)(k:Nat)(h:HW):WSt:={s with hs:=s.1.set k h}
theorem Us{A:List Pl}{m:Mg}{u:Int}(h:Gy A m=0):Fc A m u=A++[⟨m,u,ai⟩]:=by unfold Fc;rw[if_pos h]
theorem Ws(Q:DM->List Pl)(id:Int)(m:Mg)(u:Int):(St (λs=>Q (aJ s)) id m u=λs=>AU Q (A9 id m) (Fc (Q (A9 id m)) m u) (aJ s))/\(Su (λj=>Q (aL j)) id m u=λj=>AU Q (A9 id m) (Fc (Q (A9 id m)) m u) (aL j)):=by
 unfold St Su A9;by_cases h:m.5=id
 ·rw[if_pos h,if_pos h,if_pos h];constructor
  ·funext s;unfold Cw AU;by_cases e:s=m.4
   ·rw[if_pos e,if_pos (by rw[e])]
   ·rw[if_neg e,if_neg (λq=>e (Sum.inl.inj q))]
  ·funext j;rw[BB _ _ oS]
 ·rw[if_neg h,if_neg h,if_neg h];constructor
  ·funext s;rw[BB _ _ oS]
  ·funext j;unfold Af AU;by_cases e:j=m.5.toNat
   ·rw[if_pos e,if_pos (by rw[e])]
   ·rw[if_neg e,if_neg (λq=>e (bO q))]
def HW.putE(h:HW)(s:ByteArray)(pri:Int)(body:ByteArray):Int:=Jj (λs=>h.1.Q (aJ s)) (λj=>h.1.Q (aL j)) h.2 h.1.3 s pri body h.1.4 h.1.9
def HW.putM(h:HW)(s:ByteArray)(pri:Int)(body:ByteArray):Mg:=EZ h.2 h.1.3 s pri body h.1.4
def RC(rs:D3)(u:Nat)(m:Mg):D3:={rs with Q:=AU rs.Q (A9 rs.3 m) (rs.Q (A9 rs.3 m)++[⟨m,(u:Int),ai⟩]),cnt:=rs.4+1,did:=Af rs.2 u (rs.2 u++[⟨aE,m,A9 rs.3 m⟩])}
def HW.put(h:HW)(u:Nat)(s:ByteArray)(pri:Int)(body:ByteArray):HW:=if h.putE s pri body=0 then{h with rs:=RC h.1 u (h.putM s pri body),N:=h.N+1}else{h with N:=h.N+1}
def HW.got(h:HW)(s:ByteArray):Option Pl:=if Ba h.2 s=aE/\h.1.9=ai then(AA (h.1.Q (aJ s))).find? bd else E
def HW.getE(h:HW)(s:ByteArray):Int:=match h.got s with
 |some _=>0
 |none=>if Ba h.2 s=true then(if h.1.9=true then 6 else 8)else 7
def HW.getM(h:HW)(s:ByteArray):Mg:=match h.got s with
 |some x=>x.m
 |none=>Do
def Yc(rs:D3)(u:Nat)(s:ByteArray)(m:Mg):D3:={rs with Q:=AU rs.Q (aJ s) (hold m.1 u (rs.Q (aJ s))),did:=Af rs.2 u (rs.2 u++[⟨ai,m,aJ s⟩])}
def HW.get(h:HW)(u:Nat)(s:ByteArray):HW:=match h.got s with
 |some x=>{h with rs:=Yc h.1 u s x.m}
 |none=>h
def HW.commE(h:HW)(u:Nat):Int:=if h.1.2 u=[]then 8 else CE h
def I6(rs:D3)(u:Nat):D3:={FE rs u with Q:=BZ rs.Q u (rs.2 u),best:=Bq rs.5 (rs.2 u)}
def HW.comm(h:HW)(u:Nat):HW:=if h.1.2 u=[]then h else h.wr (Gb h.1.3 (An (h.1.2 u)) (Aj (h.1.2 u))) (I6 h.1 u) h.2 (Cx h.1.3 (Aj (h.1.2 u))).length
def HW.backE(h:HW)(u:Nat):Int:=if h.1.2 u=[]then 8 else if h.1.9=aE then 6 else 0
def HW.back(h:HW)(u:Nat):HW:=if h.backE u=0 then{h with rs:=FE h.1 u}else h
def HW.nameE(h:HW)(x:Nm):Int:=if IN h.2 x≠0 then IN h.2 x else CE h
def HW.name(h:HW)(x:Nm):HW:=if IN h.2 x≠0 then h else h.wr ⟨0,x,0,[],[],[],[]⟩ h.1 (Cd h.2 x) 0
section
variable{h:HW}{k i p:Nat}
theorem KZ{s:ByteArray}{pri:Int}{body:ByteArray}(e:h.putE s pri body=0):Gy (h.1.Q (A9 h.1.3 (h.putM s pri body))) (h.putM s pri body)=0/\right (h.putM s pri body)=aE/\h.1.9=ai/\(BX h.2 h.1.3 s).1=0:=by
 unfold HW.putE Jj at e;have a:bC (h.1.Q (A9 h.1.3 (h.putM s pri body))) (h.putM s pri body)=0/\h.1.9=ai/\(BX h.2 h.1.3 s).1=0:=by
  split at e
  ·split at e
   ·rename_i hg;split at e
    ·omega
    ·rename_i hd;refine⟨?_,by simpa using hd,hg⟩;unfold TS at e;unfold A9 HW.putM;split at e
     ·rename_i hh;rw[if_pos hh];exact e
     ·rename_i hh;rw[if_neg hh];exact e
   ·rename_i hh;exact absurd e hh
  ·omega
 refine⟨a.1,?_,a.2⟩;have:=a.1;unfold bC at this;split at this
 ·assumption
 ·omega
theorem HOk.put(h0:HOk h k i p)(b:i<130)(d:p<130){u:Nat}(a:u<5)(s:ByteArray)(pri:Int)(body:ByteArray):HOk (h.put u s pri body) k (i+1) (p+1):=by
 have c:=h0.3;unfold HW.put;split
 ·rename_i e;exact⟨h0.1.put a rfl (KZ e).2.1,h0.2,by show h.N+1<=p+1+BA h.4;omega,O,O⟩
 ·exact⟨h0.1.next,h0.2,by show h.N+1<=p+1+BA h.4;omega,O,O⟩
theorem HOk.get(h0:HOk h k i p)(a:i<130)(b:p<130){u:Nat}(c:u<5)(s:ByteArray):HOk (h.get u s) k (i+1) (p+1):=by
 have d:=h0.3;unfold HW.get;split
 ·rename_i x e;unfold HW.got at e;split at e
  ·exact⟨h0.1.get c e,h0.2,by show h.N<=p+1+BA h.4;omega,O,O⟩
  ·cases e
 ·exact h0.next a b
theorem HOk.chO_ok(h0:HOk h k i p){u:Nat}(a:u<5):(Gb h.1.3 (An (h.1.2 u)) (Aj (h.1.2 u))).ok:=h0.1.chO_ok (by have:=h0.4;omega) a
theorem HOk.comm(h0:HOk h k i p){u:Nat}(a:u<5):HOk (h.comm u) k i p:=by
 unfold HW.comm;split
 ·exact h0
 ·refine h0.wr (h0.chO_ok a) rfl ?_ (ag _) h0.4 (λe=>?_) (λ_ {_ _ _ _} q=>q)
  ·show(Cx h.1.3 (Aj (h.1.2 u))).length<=(Cx h.1.3 (Aj (h.1.2 u))).length+0+_;omega
  ·obtain⟨-,b,c⟩:=J1 e;exact h0.1.over (by have:=h0.4;omega) a b c
theorem HOk.back(h0:HOk h k i p){u:Nat}(a:u<5):HOk (h.back u) k i p:=by
 unfold HW.back;split
 ·exact⟨h0.1.back a,h0.2,h0.3,h0.4,h0.5⟩
 ·exact h0
theorem Ua{ns:List Nm}{x:Nm}(h:IN ns x=0):Dj ns x=0/\x.1≠AF:=by
 unfold IN at h;split at h
 ·rename_i q;exact absurd h q
 ·rename_i q;split at h
  ·cases h
  ·rename_i q2;exact⟨by simpa using q,q2⟩
theorem HOk.name(h0:HOk h k i p){x:Nm}(hx:x.wf):HOk (h.name x) k i p:=by
 unfold HW.name;split
 ·exact h0
 ·rename_i e;obtain⟨a,b⟩:=Ua (by simpa using e);refine h0.wr (JG (Lb a)) rfl oS (ag _) h0.4 (λe=>?_) (λ_ {_ _ _ _} q=>q);obtain⟨-,c,d⟩:=J1 e;exact h0.1.name hx a b c d
end
section
variable{L:Nat->Prop}{W:Nat}{s:WSt}{w:ax}{h:HW}{k i p:Nat}
theorem F0(z:WM L W s w)(hk:s.1[k]?=I h)(h0:HOk h k i p){u:Nat}(S:u<5)(t:ByteArray)(pri:Int)(body:ByteArray)(g:body.size<=1000000):aq ab 16 #[ah (I ⟨h.H,0,E⟩),Y G (u:Int),am t,Y G pri,am body] w λe w'=>e=ac (az #[Y G (if h.putE t pri body=0 then(h.putM t pri body).1 else 0),AY (h.putE t pri body)])/\Hid (WM L W (s.setH k (h.put u t pri body)) w'/\Only w w' (λb=>¬L b)):=by
 obtain⟨o,D,U,r,X,q4,q5,v⟩:=z.house hk;have c:=h0.1;have l:=c.cn;have P:=h0.4;have q:=h0.big;have M:=c.dl u;have R:=(CW (h.1.2 u)).1;refine(Yg o h.H D _ t u pri body w U c.4 c.5 c.3 ⟨l.1,by show h.1.4<=1000000;omega⟩ S g (λs=>by have:=h0.len (aJ s);show(h.1.Q (aJ s)).length<=1000;omega) (λj=>by have:=h0.len (aL j);show(h.1.Q (aL j)).length<=1000;omega) (by show(Aj (h.1.2 u)).length<=1000;omega) (by show h.N<1000000;omega)).mono ?_;rintro e w' (⟨a,rfl,d,f⟩|⟨a,rfl,d,f⟩)
 ·have a:h.putE t pri body≠0:=a;refine⟨by rw[if_neg a,AH a];rfl,Aa ?_⟩;unfold HW.put;rw[if_neg a];exact v w' _ rfl (ag _) d (r.only f (λn=>n (aG rfl))) (f.mono (λ_ _ hx m=>hx (aw m)))
 ·have a:h.putE t pri body=0:=a;obtain⟨g1,V,-⟩:=KZ a;refine⟨by rw[if_pos a,a];rfl,Aa ?_⟩;unfold HW.put;rw[if_pos a];have d:Hx o h.H D {h.st with A:=St (λs=>h.1.Q (aJ s)) h.1.3 (h.putM t pri body) u,B:=Su (λj=>h.1.Q (aL j)) h.1.3 (h.putM t pri body) u,N:=h.N+1,pu:=Af (λu=>Aj (h.1.2 u)) u (Aj (h.1.2 u)++[h.putM t pri body]),cnt:=h.1.4+1} w':=d;refine v w' _ rfl (ag _) ?_ (r.only f (λn=>n (aG rfl))) (f.mono (λ_ _ hx m=>hx (aw m)));have ex:({h.st with A:=St (λs=>h.1.Q (aJ s)) h.1.3 (h.putM t pri body) u,B:=Su (λj=>h.1.Q (aL j)) h.1.3 (h.putM t pri body) u,N:=h.N+1,pu:=Af (λu=>Aj (h.1.2 u)) u (Aj (h.1.2 u)++[h.putM t pri body]),cnt:=h.1.4+1}:BG)=({h with rs:=RC h.1 u (h.putM t pri body),N:=h.N+1}:HW).st:=by obtain⟨x,y⟩:=Ws h.1.Q h.1.3 (h.putM t pri body) u;unfold dj MD RC;simp only;rw[x,y,Us g1,CX,Fv,Fd _ rfl,Lh _ rfl];congr 1;exact(Fw _ u).symm
  rw[<-ex];exact d
theorem Mu(S:WM L W s w)(hk:s.1[k]?=I h)(h0:HOk h k i p){u:Nat}(hu:u<5)(t:ByteArray)(hs:t.size<=cg):aq ab 19 #[ah (I ⟨h.H,0,E⟩),Y G (u:Int),am t] w λe w'=>e=ac (az #[(h.getM t).val,AY (h.getE t)])/\Hid (WM L W (s.setH k (h.get u t)) w'/\Only w w' (λb=>¬L b)):=by
 obtain⟨z,D,q1,N,q3,q4,q5,P⟩:=S.house hk;have M:=h0.1;have V:=h0.4;have U:=M.dl u;have X:=(CW (h.1.2 u)).2;refine(Ye z h.H D _ t u w q1 M.4 hu hs (λs=>by have:=h0.len (aJ s);show(h.1.Q (aJ s)).length<=1000;omega) (by show(An (h.1.2 u)).length<=1000;omega)).mono ?_;rintro e w' (⟨a,r0,rc,j,g,o,rfl,d,f⟩|⟨r,rd,x,v,rfl,d,f⟩)
 ·have j:a=7↔Ba h.2 t=ai:=j;have g:Ba h.2 t=aE->(a=6↔h.1.9=aE):=g;have o:a=8->(AA (h.1.Q (aJ t))).find? bd=E:=o;have c:h.got t=E/\(if Ba h.2 t=aE then(if h.1.9=aE then(6:Int)else 8)else 7)=a:=by
   unfold HW.got;cases ho:Ba h.2 t with
   |false=>refine⟨if_neg (λq=>by cases q.1),?_⟩;rw[if_neg oD];exact(j.2 ho).symm
   |true=>
    rw[if_pos rfl];cases hd:h.1.9 with
    |true=>refine⟨if_neg (λq=>by cases q.2),?_⟩;rw[if_pos rfl];exact((g ho).2 hd).symm
    |false=>
     have n7:a≠7:=λe=>by rw[j.1 e]at ho;cases ho
     have n6:a≠6:=λe=>by rw[(g ho).1 e]at hd;cases hd
     have B:a=8:=O;refine⟨?_,?_⟩
     ·rw[if_pos ⟨rfl,rfl⟩];exact o B
     ·rw[if_neg oD];exact B.symm
  have R:h.getE t=a:=by unfold HW.getE;rw[c.1];exact c.2
  refine⟨by rw[R,AH r0];unfold HW.getM;rw[c.1],Aa ?_⟩;unfold HW.get;rw[c.1];exact P w' _ rfl (ag _) d (N.only f (λn=>n (aG rfl))) (f.mono (λ_ _ hx l=>hx (aw l)))
 ·have r:Ba h.2 t=aE:=r;have rd:h.1.9=ai:=rd;have v:(AA (h.1.Q (aJ t))).find? bd=I x:=v;have c:h.got t=I x:=by unfold HW.got;rw[if_pos ⟨r,rd⟩];exact v
  refine⟨by unfold HW.getE HW.getM;rw[c];rfl,Aa ?_⟩;unfold HW.get;rw[c];have d:Hx z h.H D {h.st with A:=Cw (λs=>h.1.Q (aJ s)) t (hold x.m.1 u (h.1.Q (aJ t))),tk:=Af (λu=>An (h.1.2 u)) u (An (h.1.2 u)++[x.m.1])} w':=d;have ex:({h.st with A:=Cw (λs=>h.1.Q (aJ s)) t (hold x.m.1 u (h.1.Q (aJ t))),tk:=Af (λu=>An (h.1.2 u)) u (An (h.1.2 u)++[x.m.1])}:BG)=({h with rs:=Yc h.1 u t x.m}:HW).st:=by
   unfold dj MD Yc;simp only;rw[CX,Fv,Fq _ rfl,JT _ rfl];congr 1
   ·funext y;unfold Cw AU;by_cases e:y=t
    ·rw[if_pos e,if_pos (by rw[e])]
    ·rw[if_neg e,if_neg (λq=>e (Sum.inl.inj q))]
   ·exact(Fw _ u).symm
  rw[ex]at d;exact P w' _ rfl (ag _) d (N.only f (λn=>n (aG rfl))) (f.mono (λ_ _ hx l=>hx (aw l)))
theorem commX_chx{H:Nat}{D:DP}{d:Dk}{W:ax}{st:BG}{u:Nat}{e:Ending}{w':ax}(h:Xz L H D st u d W e w'):((st.4 u=[]/\st.5 u=[])/\e=ac (cf 70 (Y G 8))/\Hx L H D st w'/\DB w' D d/\Only W w' (λx=>¬L x))\/(¬(st.4 u=[]/\st.5 u=[])/\Qz L H D st (Gb st.7 (st.5 u) (st.4 u)) {st with A:=As (λs=>Al (st.5 u) (AN u aE (st.A s))) (Cx st.7 (st.4 u)),B:=AM (λj=>AN u aE (st.B j)) (Dz st.7 (st.4 u)),N:=st.N+(Cx st.7 (st.4 u)).length,pu:=Af st.4 u [],tk:=Af st.5 u [],k:=st.k+1,cnt:=AB (AB st.11 (Cx st.7 (st.4 u))) (Dz st.7 (st.4 u))} d W e w'):=by
 rcases h with⟨n,h0,rfl,g,c,a,⟨rfl,h1,h2⟩|⟨f,⟨rfl,h1⟩|⟨rfl,h1,h2⟩⟩⟩|⟨f,h1,h2,b,d',l,a,c,m⟩
 ·exact aw ⟨⟨h1,h2⟩,rfl,g,a,c⟩
 ·exact aG ⟨f,aw ⟨6,h0,rfl,g,a,c,aw ⟨h1,rfl⟩⟩⟩
 ·exact aG ⟨f,aw ⟨4,h0,rfl,g,a,c,aG ⟨h1,h2,rfl⟩⟩⟩
 ·exact aG ⟨f,aG ⟨h1,h2,b,d',l,a,c,m⟩⟩
theorem Lm(M:WM L W s w)(hk:s.1[k]?=I h)(h0:HOk h k i p){u:Nat}(g:u<5):aq ab 17 #[ah (I ⟨h.H,0,E⟩),Y G (u:Int)] w λe w'=>e=ac (AY (h.commE u))/\Hid (WM L W (s.setH k (h.comm u)) w'/\Only w w' (λb=>¬L b)):=by
 obtain⟨x,D,X,q2,q3,q4,q5,v⟩:=M.house hk;have f:=h0.1;have S:=h0.4;have t:=h0.big;have P:=f.dl u;have U:=CW (h.1.2 u);have o:∀m∈Aj (h.1.2 u),right m=aE:=λm hm=>by obtain⟨e,R,l,rfl⟩:=AZ.1 hm;exact f.q.right_put g R l
 refine(Q4 x h.H D _ u h.d w X q2 q3 f.1.5 q4 g (λs=>by have:=h0.len (aJ s);show(h.1.Q (aJ s)).length+(Aj (h.1.2 u)).length<=1000;omega) (λj=>by have:=h0.len (aL j);show(h.1.Q (aL j)).length+(Aj (h.1.2 u)).length<=1000;omega) (by show(An (h.1.2 u)).length<=1000;omega) o (λz V=>(h0.chO_ok g).7 z V) (by show h.N+(Aj (h.1.2 u)).length<1000000;omega)).mono ?_;intro e w' q;have a:(Aj (h.1.2 u)=[]/\An (h.1.2 u)=[])↔h.1.2 u=[]:=NG;rcases commX_chx q with⟨r,rfl,r1,r2,r3⟩|⟨r,q⟩
 ·have c:h.1.2 u=[]:=a.1 r;unfold HW.commE HW.comm;rw[if_pos c,if_pos c];exact⟨rfl,Aa (v w' _ rfl (ag _) r1 r2 r3)⟩
 ·have c:¬h.1.2 u=[]:=λe=>r (a.2 e);unfold HW.commE HW.comm;rw[if_neg c,if_neg c];have ex:=f.over_x g h.N h.4.length h.6;obtain⟨y,a2,a3,a4⟩:=FP (rs':=I6 h.1 u) (ns':=h.2) (n:=(Cx h.1.3 (Aj (h.1.2 u))).length) q ex;obtain⟨A,B⟩:=h.wr_H (Gb h.1.3 (An (h.1.2 u)) (Aj (h.1.2 u))) (I6 h.1 u) h.2 (Cx h.1.3 (Aj (h.1.2 u))).length;exact⟨y,Aa (v w' _ A B a2 a3 a4)⟩
theorem Xj(v:WM L W s w)(hk:s.1[k]?=I h)(h0:HOk h k i p){u:Nat}(x:u<5):aq ab 21 #[ah (I ⟨h.H,0,E⟩),Y G (u:Int)] w λe w'=>e=ac (AY (h.backE u))/\Hid (WM L W (s.setH k (h.back u)) w'/\Only w w' (λb=>¬L b)):=by
 obtain⟨o,D,y,q,A,B,M,r⟩:=v.house hk;have a:(Aj (h.1.2 u)=[]/\An (h.1.2 u)=[])↔h.1.2 u=[]:=NG;refine(Wi o h.H D _ u w y x (λs=>by have:=h0.len (aJ s);show(h.1.Q (aJ s)).length<=1000;omega) (λj=>by have:=h0.len (aL j);show(h.1.Q (aL j)).length<=1000;omega)).mono ?_;rintro e w' (⟨t,d,rfl,n,c,z⟩|⟨d,rd,rfl,n,c⟩)
 ·have g:h.backE u=t:=by
   unfold HW.backE;rcases z with⟨rfl,f,a2⟩|⟨rfl,f,a2⟩
   ·rw[if_pos (a.1 ⟨f,a2⟩)]
   ·have a2:h.1.9=aE:=a2;rw[if_neg (λe=>f (a.2 e)),if_pos a2]
  unfold HW.back;rw[g,if_neg d,AH d];exact⟨rfl,Aa (r w' _ rfl (ag _) n (q.only c (λm=>m (aG rfl))) (c.mono (λ_ _ hx l=>hx (aw l))))⟩
 ·have rd:h.1.9=ai:=rd;have g:h.backE u=0:=by unfold HW.backE;rw[if_neg (λe=>d (a.2 e)),if_neg (by rw[rd];decide)]
  unfold HW.back;rw[g,if_pos rfl];have ex:=XV (rs:=h.1) (ns:=h.2) h.N h.4.length h.6 u;refine⟨rfl,Aa (r w' _ rfl (ag _) ?_ (q.only c (λm=>m (aG rfl))) (c.mono (λ_ _ hx l=>hx (aw l))))⟩;show Hx o h.H D (MD (FE h.1 u) h.2 h.N h.4.length h.6) w';rw[ex];exact n
theorem nameX_chx{H:Nat}{D:DP}{d:Dk}{W:ax}{e:Ending}{w':ax}{c:Ch}{a:Int}{st:BG}{ns':List Nm}(h:XB L H D st a c ns' d W e w'):(a≠0/\e=ac (cf 70 (Y G a))/\Hx L H D st w'/\DB w' D d/\Only W w' (λx=>¬L x))\/(a=0/\Qz L H D st c {st with ns:=ns',k:=st.k+1} d W e w'):=by
 rcases h with⟨z,l,rfl,f,g,j,⟨h1,rfl⟩|⟨h1,h2,rfl⟩|⟨h1,h2,b,rfl⟩⟩|⟨h1,h2,b,m⟩
 ·exact aw ⟨h1,rfl,f,g,j⟩
 ·exact aG ⟨h1,aw ⟨6,l,rfl,f,g,j,aw ⟨h2,rfl⟩⟩⟩
 ·exact aG ⟨h1,aw ⟨4,l,rfl,f,g,j,aG ⟨h2,b,rfl⟩⟩⟩
 ·exact aG ⟨h1,aG ⟨h2,b,m⟩⟩
theorem Xn(o:WM L W s w)(hk:s.1[k]?=I h)(h0:HOk h k i p){x:Nm}(hx:x.wf):aq ab 41 #[ah (I ⟨h.H,0,E⟩),ct #[am x.1,am x.2,Y G x.3]] w λe w'=>e=ac (AY (h.nameE x))/\Hid (WM L W (s.setH k (h.name x)) w'/\Only w w' (λb=>¬L b)):=by
 obtain⟨g,D,r,t,u,v,B,f⟩:=o.house hk;have c:=h0.1;refine(Wm g h.H D _ x h.d w r t u c.1.5 v c.4 c.5 hx).mono ?_;intro e w' q;rcases nameX_chx q with⟨a,rfl,y,z,A⟩|⟨a,q⟩
 ·have a:IN h.2 x≠0:=a;unfold HW.nameE HW.name;rw[if_pos a,if_pos a,AH a];exact⟨rfl,Aa (f w' _ rfl (ag _) y z A)⟩
 ·have a:IN h.2 x=0:=a;unfold HW.nameE HW.name;rw[if_neg (λq=>q a),if_neg (λq=>q a)];obtain⟨j,a2,a3,a4⟩:=FP (rs':=h.1) (ns':=Cd h.2 x) (n:=0) q rfl;obtain⟨l,m⟩:=h.wr_H ⟨0,x,0,[],[],[],[]⟩ h.1 (Cd h.2 x) 0;exact⟨j,Aa (f w' _ l m a2 a3 a4)⟩
end
def HW.batE(h:HW)(far:Int):Int:=if Od h.st far≠0 then Od h.st far else if h.1.6 far.toNat=[]then CE h else 0
def FG(rs:D3)(j:Nat):D3:={rs with db:=Af rs.6 j (Bb rs j),md:=Af rs.7 j (rs.7 j+1)}
def HW.bat(h:HW)(far:Int):HW:=if Od h.st far=0/\h.1.6 far.toNat=[]then h.wr (Be far.toNat (Bb h.1 far.toNat)) (FG h.1 far.toNat) h.2 0 else h
def Cb(rs:D3)(j:Nat):List Mg:=(Ar bf (AA (rs.Q (aL j)))).filter λm=>aY (m.1∈rs.6 j)
def HW.batL(h:HW)(far:Int):List Mg:=if h.batE far=0 then Cb (h.bat far).1 far.toNat else []
def HW.batN(h:HW)(far:Int):Int:=if h.batE far=0 then(h.bat far).1.7 far.toNat else 0
def HW.camE(h:HW)(far n:Int):Int:=if SS h.st far n≠0 then SS h.st far n else CE h
def I3(rs:D3)(j:Nat):D3:={rs with Q:=AU rs.Q (aL j) (Al (rs.6 j) (rs.Q (aL j))),db:=Af rs.6 j []}
def HW.came(h:HW)(far n:Int):HW:=if SS h.st far n≠0 then h else h.wr (Bk far.toNat) (I3 h.1 far.toNat) h.2 0
def HW.arF(a:(p:Prop)->Decidable p)(h:HW)(far n:Int)(l:List Mg):Int:=Vx a h.st far n l
def HW.arrE(a:(p:Prop)->Decidable p)(h:HW)(far n:Int)(l:List Mg):Int:=if HW.arF a h far n l≠0 then HW.arF a h far n l else if n<=h.1.8 far.toNat then 0 else CE h
def Fa(h:HW)(l:List Mg):List Mg:=(Az h.2 (λs=>h.1.Q (aJ s)) l).q
def E9(h:HW)(l:List Mg):List Mg:=(Az h.2 (λs=>h.1.Q (aJ s)) l).d
def J5(rs:D3)(j:Nat)(q d:List Mg):D3:={rs with ar:=Af rs.8 j (rs.8 j+1),Q:=arrQ rs.Q q d}
def HW.arr(a:(p:Prop)->Decidable p)(h:HW)(far n:Int)(l:List Mg):HW:=if HW.arF a h far n l=0/\¬n<=h.1.8 far.toNat then h.wr (BH far.toNat (Fa h l) (E9 h l)) (J5 h.1 far.toNat (Fa h l) (E9 h l)) h.2 ((Fa h l).length+(E9 h l).length)else h
def HW.arrV(a:(p:Prop)->Decidable p)(h:HW)(far n:Int)(l:List Mg):Int:=if HW.arrE a h far n l=0 then(if n<=h.1.8 far.toNat then h.1.8 far.toNat else h.1.8 far.toNat+1)else 0
section
variable{h:HW}{k i p:Nat}
theorem IW{far:Int}(e:Od h.st far=0):Bm h.1.3 far=aE/\h.1.9=ai/\(h.1.6 far.toNat=[]->Ar bd (AA (h.1.Q (aL far.toNat)))≠[]):=by
 have e:(if Bm h.1.3 far=aE then(if h.1.9=aE then(6:Int)else if h.1.6 far.toNat=[]/\Ar bd (AA (h.1.Q (aL far.toNat)))=[]then 8 else 0)else 2)=0:=e;split at e
 ·rename_i h1;split at e
  ·cases e
  ·rename_i h2;split at e
   ·cases e
   ·rename_i h3;exact⟨h1,by simpa using h2,λq a=>h3 ⟨q,a⟩⟩
 ·cases e
theorem Qd{rs:D3}{j:Nat}(h:Ar bd (AA (rs.Q (aL j)))≠[]):Bb rs j≠[]:=by
 unfold Bb;cases e:Ar bd (AA (rs.Q (aL j)))with
 |nil=>exact absurd e h
 |cons m r=>simp
theorem HOk.bat(h0:HOk h k i p)(far:Int):HOk (h.bat far) k i p:=by
 unfold HW.bat;split
 ·rename_i e;obtain⟨b,g,c⟩:=IW e.1;obtain⟨⟨f0,j⟩,-⟩:=AE.1 b;have hj:far.toNat<4:=O;obtain⟨l,m,n,n4⟩:=h0.1.nextIds far.toNat;refine h0.wr (GN hj n4 O) rfl oS (ag _) h0.4 (λf=>?_) (λ_ {_ _ _ _} q=>q);obtain⟨-,a,d⟩:=J1 f;exact h0.1.made hj e.2 (Qd (c e.2)) a d
 ·exact h0
theorem ML{far n:Int}(e:SS h.st far n=0):Bm h.1.3 far=aE/\h.1.9=ai/\h.1.6 far.toNat≠[]/\n=h.1.7 far.toNat:=by
 have e:(if Bm h.1.3 far=aE then(if h.1.9=aE then(6:Int)else if h.1.6 far.toNat=[]\/n≠h.1.7 far.toNat then 8 else 0)else 2)=0:=e;split at e
 ·rename_i h1;split at e
  ·cases e
  ·rename_i h2;split at e
   ·cases e
   ·rename_i h3;exact⟨h1,by simpa using h2,λq=>h3 (aw q),bi (λq=>h3 (aG q))⟩
 ·cases e
theorem HOk.came(h0:HOk h k i p)(far n:Int):HOk (h.came far n) k i p:=by
 unfold HW.came;split
 ·exact h0
 ·rename_i e;obtain⟨b,-,-,-⟩:=ML (by simpa using e);obtain⟨⟨f0,f⟩,-⟩:=AE.1 b;have hj:far.toNat<4:=O;refine h0.wr (GM hj) rfl oS (ag _) h0.4 (λd=>?_) (λ_ {_ _ _ _} q=>q);obtain⟨-,a,c⟩:=J1 d;exact h0.1.came hj a c
open Classical in
theorem SL(b:Inv h.1 h.2 h.d h.4 i p)(far n:Int)(l:List Mg):HW.arF F h far n l=if Bm h.1.3 far=aE then(if h.1.9=aE then 6 else if n<=h.1.8 far.toNat then 0 else if h.1.8 far.toNat+1<n then 10 else if∃x∈l,In h.1.3 x=ai then 1 else if Sv h.1.Q l then 9 else 0)else 2:=by
 have c:KI F h.st l=if∃x∈l,In h.1.3 x=ai then 1 else if Sv h.1.Q l then 9 else 0:=by
  unfold KI;by_cases g1:∃x∈l,In h.1.3 x=ai
  ·rw[if_pos g1];exact if_pos g1
  ·rw[if_neg g1];refine(if_neg g1).trans ?_;by_cases a:Sv h.1.Q l
   ·rw[if_pos a];exact if_pos ((b.twice l).2 a)
   ·rw[if_neg a];exact if_neg (λq=>a ((b.twice l).1 q))
 rw[<-c];unfold HW.arF Vx;congr
theorem F3(f:Inv h.1 h.2 h.d h.4 i p){far n:Int}{l:List Mg}(e:HW.arF F h far n l=0)(g:¬n<=h.1.8 far.toNat):Bm h.1.3 far=aE/\h.1.9=ai/\n=h.1.8 far.toNat+1/\(∀x∈l,In h.1.3 x=aE)/\¬Sv h.1.Q l:=by
 classical
 rw[SL f]at e;by_cases h1:Bm h.1.3 far=aE
 ·rw[if_pos h1]at e;by_cases h2:h.1.9=aE
  ·rw[if_pos h2]at e;cases e
  rw[if_neg h2,if_neg g]at e;by_cases b:h.1.8 far.toNat+1<n
  ·rw[if_pos b]at e;cases e
  rw[if_neg b]at e;by_cases a:∃x∈l,In h.1.3 x=ai
  ·rw[if_pos a]at e;cases e
  rw[if_neg a]at e;by_cases c:Sv h.1.Q l
  ·rw[if_pos c]at e;cases e
  refine⟨h1,by simpa using h2,O,λx hx=>?_,c⟩;cases hh:In h.1.3 x with
  |true=>rfl
  |false=>exact absurd ⟨x,hx,hh⟩ a
 ·rw[if_neg h1]at e;cases e
theorem HOk.arr(h0:HOk h k i p)(y:i<130)(far n:Int){l:List Mg}(r:l.length<=6):HOk (HW.arr F h far n l) k (i+1) p:=by
 have t:∀{rs ns d chs},Inv rs ns d chs i p->Inv rs ns d chs (i+1) p:=λ{_ _ _ _} q=>q.next1;unfold HW.arr;split
 ·rename_i e;obtain⟨g,u,v,c,f⟩:=F3 h0.1 e.1 e.2;obtain⟨⟨f0,x⟩,-⟩:=AE.1 g;have hj:far.toNat<4:=O;have a:=(h0.1.new c f).1;have b:=(El h.2 (λs=>h.1.Q (aJ s)) l).1;have b:(Fa h l).length+(E9 h l).length=l.length:=b;refine h0.wr (Ga hj a.1 a.2 ⟨by show(Fa h l).length<=_;omega,by show(E9 h l).length<=_;omega⟩) rfl ?_ (cj _) O (λj=>?_) (λ_ {_ _ _ _} q=>q.next1)
  ·show(Fa h l).length+(E9 h l).length<=(Fa h l).length+(E9 h l).length+0;omega
  ·obtain⟨-,m,o⟩:=J1 j;exact h0.1.arr hj c f r m o rfl rfl
 ·exact⟨h0.1.next1,h0.2,h0.3,O,h0.5⟩
end
theorem RH{m:Mg}(h:right m=aE):m.3.size<=cg/\m.4.size<=cg:=by simp only[right,Ci,Bool.and_eq_true,decide_eq_true_eq]at h;unfold cg;omega
section
variable{L:Nat->Prop}{W:Nat}{s:WSt}{w:ax}{h:HW}{k i p:Nat}
theorem CK{k:Nat}(hk:s.1[k]?=I h):s.setH k h=s:=by
 unfold WSt.setH;have:s.1.set k h=s.1:=by
  apply List.ext_getElem?;intro j;by_cases e:j=k
  ·subst e;rw[aR (aa.1 hk).1,hk]
  ·rw[bk (λq=>e q.symm)]
 rw[this]
theorem U9(A:WM L W s w)(hk:s.1[k]?=I h)(h0:HOk h k i p)(far:Int):aq ab 53 #[ah (I ⟨h.H,0,E⟩),Y G far] w λe w'=>∃v' m,e=ac (az #[Y G (h.batN far),v',AY (h.batE far)])/\Hid (WM L W (s.setH k (h.bat far)) m/\Only w m (λb=>¬L b)/\aA m.1.size m w'/\w'.ownsRow m.1.size 52 5 v' (h.batL far).length (AK (h.batL far))):=by
 obtain⟨X,D,q1,q2,q3,q4,q5,V⟩:=A.house hk;have v:=h0.1;have B:=h0.ybd;refine(Tz X h.H D _ far h.d w q1 q2 q3 v.1.5 q4 (λj=>by have:=h0.len (aL j);show(h.1.Q (aL j)).length<=1000;omega) (λj=>by have:=(v.17 j).2;show(h.1.6 j).length<=1000;omega) (λj=>by have:=B.1 j;show 0<=h.1.7 j/\h.1.7 j<=1000000;omega) (λj x hx=>?_)).mono ?_
 ·obtain⟨y,B,rfl,-⟩:=PR hx (v.q.1 (aL j));exact v.q.ids B
 rintro e w' (⟨l,rfl,u⟩|⟨l,rd,v',rfl,u,N⟩|⟨l,rd,Wb,U,r⟩)
 ·have f:h.batE far=Od h.st far:=by unfold HW.batE;rw[if_pos l]
  have g:h.bat far=h:=by unfold HW.bat;rw[if_neg (λq=>l q.1)]
  have c:h.batE far≠0:=by rw[f];exact l
  have t:h.batL far=[]:=by unfold HW.batL;rw[if_neg c]
  refine⟨aj E 0 0,w',by unfold HW.batN;rw[if_neg c,f,AH l],Aa ?_⟩;rw[g,CK hk,t];exact⟨A.below u,aF u,aB _ _,ba _ _ _ _⟩
 ·have rd:h.1.6 far.toNat≠[]:=rd;have f:h.batE far=0:=by unfold HW.batE;rw[if_neg (λq=>q l),if_neg rd]
  have g:h.bat far=h:=by unfold HW.bat;rw[if_neg (λq=>rd q.2)]
  have t:h.batL far=Dh h.st far.toNat:=by unfold HW.batL;rw[if_pos f,g];rfl
  refine⟨v',w,by unfold HW.batN;rw[if_pos f,f,g];rfl,Aa ?_⟩;rw[g,CK hk,t];exact⟨A,bz _ _,N,u⟩
 ·have rd:h.1.6 far.toNat=[]:=rd;have f:h.batE far=CE h:=by unfold HW.batE;rw[if_neg (λq=>q l),if_pos rd]
  have g:h.bat far=h.wr (Be far.toNat (Bb h.1 far.toNat)) (FG h.1 far.toNat) h.2 0:=by unfold HW.bat;rw[if_pos ⟨l,rd⟩]
  obtain⟨P,R⟩:=h.wr_H (Be far.toNat (Bb h.1 far.toNat)) (FG h.1 far.toNat) h.2 0;have en:Dt h.st far.toNat=Bb h.1 far.toNat:=rfl;rw[en]at r;rcases r with⟨z,rfl,r⟩|⟨m,v',r,rfl,u,N⟩
  ·obtain⟨a,a2,a3,a4⟩:=FP (rs':=FG h.1 far.toNat) (ns':=h.2) (n:=0) r rfl;injection a with a;have M:z=CE h/\CE h≠0:=by
    by_cases c:CE h=0
    ·rw[c]at a;cases a
    ·rw[AH c]at a;injection a with _ a;injection a with _ a;exact⟨a,c⟩
   have c:h.batE far≠0:=by rw[f];exact M.2
   have t:h.batL far=[]:=by unfold HW.batL;rw[if_neg c]
   refine⟨aj E 0 0,w',by unfold HW.batN;rw[if_neg c,f,AH M.2,M.1],Aa ?_⟩;rw[g,t];obtain⟨c1,c2⟩:=V w' _ P R a2 a3 ((aF U).trans (a4.mono (λ_ _ q=>aw q)));exact⟨c1,c2,aB _ _,ba _ _ _ _⟩
  ·obtain⟨a,a2,a3,a4⟩:=FP (rs':=FG h.1 far.toNat) (ns':=h.2) (n:=0) r rfl;injection a with a;have c:CE h=0:=by
    by_cases c:CE h=0
    ·exact c
    ·rw[AH c]at a;cases a
   have o:h.batE far=0:=f.trans c;have S:(h.bat far).1=FG h.1 far.toNat:=by rw[g,bc c]
   have t:h.batL far=Dh (EO h.st far.toNat (Bb h.1 far.toNat)) far.toNat:=by unfold HW.batL;rw[if_pos o,S];rfl
   refine⟨v',m,?_,Aa ?_⟩
   ·unfold HW.batN;rw[if_pos o,o,S];show _=ac (az #[Y G (Af h.1.7 far.toNat (h.1.7 far.toNat+1) far.toNat),v',aQ]);rw[Ae];rfl
   ·rw[t];obtain⟨c1,c2⟩:=V m _ P R a2 a3 ((aF U).trans (a4.mono (λ_ _ q=>aw q)));rw[g];exact⟨c1,c2,N,u⟩
theorem Xk(f:WM L W s w)(hk:s.1[k]?=I h)(h0:HOk h k i p)(far n:Int):aq ab 98 #[ah (I ⟨h.H,0,E⟩),Y G far,Y G n] w λe w'=>e=ac (AY (h.camE far n))/\Hid (WM L W (s.setH k (h.came far n)) w'/\Only w w' (λb=>¬L b)):=by
 obtain⟨g,D,t,u,v,x,z,y⟩:=f.house hk;have c:=h0.1;refine(Wj g h.H D _ far n h.d w t u v c.1.5 x (λj=>by have:=h0.len (aL j);show(h.1.Q (aL j)).length<=1000;omega) (λj=>by have:=(c.17 j).2;show(h.1.6 j).length<=1000;omega)).mono ?_;rintro e w' (⟨a,rfl,rfl⟩|⟨a,r⟩)
 ·unfold HW.camE HW.came;rw[if_pos a,if_pos a,AH a,CK hk];exact⟨rfl,Aa ⟨f,bz _ _⟩⟩
 ·unfold HW.camE HW.came;rw[if_neg (λq=>q a),if_neg (λq=>q a)];obtain⟨l,a2,a3,a4⟩:=FP (rs':=I3 h.1 far.toNat) (ns':=h.2) (n:=0) r (by
   unfold MN dj MD I3;simp only;congr 1;funext j;unfold Af AU;by_cases e:j=far.toNat
   ·rw[if_pos e,if_pos (by rw[e])]
   ·rw[if_neg e,if_neg (λq=>e (bO q))]);obtain⟨m,o⟩:=h.wr_H (Bk far.toNat) (I3 h.1 far.toNat) h.2 0;exact⟨l,Aa (y w' _ m o a2 a3 a4)⟩
theorem Pq(v:WM L W s w)(hk:s.1[k]?=I h)(h0:HOk h k i p)(far n:Int){l:List Mg}{a:Option Addr}{R:Nat}{ok:Nat->Prop}(h6:l.length<=6)(hm:MsAt ok w a l)(hr:∀x∈l,right x=aE):aq ab 99 #[ah (I ⟨h.H,0,E⟩),Y G far,Y G n,aj a l.length R] w λe w'=>e=ac (az #[Y G (HW.arrV F h far n l),AY (HW.arrE F h far n l)])/\Hid (WM L W (s.setH k (HW.arr F h far n l)) w'/\Only w w' (λb=>¬L b)):=by
 obtain⟨V,D,q1,q2,q3,q4,q5,S⟩:=v.house hk;have u:=h0.1;have hy:=h0.ybd;have P:=h0.big;refine(OI V h.H D _ far n l a l.length R h.d w q1 q2 q3 u.1.5 q4 u.4 rfl O (λj x hx=>by obtain⟨gb,go,X,e2,-,e3⟩:=hm j x hx;exact⟨gb,go,X,e2,e3⟩) (λx hx=>RH (hr x hx)) (λs=>by have:=h0.len (aJ s);show(h.1.Q (aJ s)).length+l.length<=1000;omega) (by show h.N+l.length<1000000;omega) (λj=>by have:=hy.2 j;show 0<=h.1.8 j/\h.1.8 j<=1000000;omega)).mono ?_;rintro e w' (⟨c,rfl,U⟩|⟨c,g,rfl,rfl⟩|⟨c,g,Wb,M,r⟩)
 ·have c:HW.arF F h far n l≠0:=c;have o:HW.arrE F h far n l=HW.arF F h far n l:=by unfold HW.arrE;rw[if_pos c]
  have t:HW.arr F h far n l=h:=by unfold HW.arr;rw[if_neg (λq=>c q.1)]
  refine⟨by unfold HW.arrV;rw[o,if_neg c,AH c];rfl,Aa ?_⟩;rw[t,CK hk];exact⟨v.below U,aF U⟩
 ·have c:HW.arF F h far n l=0:=c;have g:n<=h.1.8 far.toNat:=g;have o:HW.arrE F h far n l=0:=by unfold HW.arrE;rw[if_neg (λq=>q c),if_pos g]
  have t:HW.arr F h far n l=h:=by unfold HW.arr;rw[if_neg (λq=>q.2 g)]
  refine⟨by unfold HW.arrV;rw[if_pos o,if_pos g,o];rfl,Aa ?_⟩;rw[t,CK hk];exact⟨v,bz _ _⟩
 ·have c:HW.arF F h far n l=0:=c;have g:¬n<=h.1.8 far.toNat:=g;have o:HW.arrE F h far n l=CE h:=by unfold HW.arrE;rw[if_neg (λq=>q c),if_neg g]
  obtain⟨-,-,-,e4,e5⟩:=F3 u c g;have t:HW.arr F h far n l=h.wr (BH far.toNat (Fa h l) (E9 h l)) (J5 h.1 far.toNat (Fa h l) (E9 h l)) h.2 ((Fa h l).length+(E9 h l).length):=by unfold HW.arr;rw[if_pos ⟨c,g⟩]
  obtain⟨A,B⟩:=h.wr_H (BH far.toNat (Fa h l) (E9 h l)) (J5 h.1 far.toNat (Fa h l) (E9 h l)) h.2 ((Fa h l).length+(E9 h l).length);have ex:=u.arr_x (j:=far.toNat) e4 e5 (q:=Fa h l) (ds:=E9 h l) rfl rfl h.N h.4.length h.6;have ex:IV h.st far.toNat (Fa h l) (E9 h l)=MD (J5 h.1 far.toNat (Fa h l) (E9 h l)) h.2 (h.N+((Fa h l).length+(E9 h l).length)) (h.4.length+1) h.6:=by rw[<-cu];exact ex
  rcases r with⟨z,rfl,r⟩|⟨rfl,r⟩
  ·obtain⟨f,a2,a3,a4⟩:=FP r ex;injection f with f;have y:z=CE h/\CE h≠0:=by
    by_cases m:CE h=0
    ·rw[m]at f;cases f
    ·rw[AH m]at f;injection f with _ f;injection f with _ f;exact⟨f,m⟩
   refine⟨by unfold HW.arrV;rw[o,if_neg y.2,AH y.2,y.1],Aa ?_⟩;rw[t];exact S w' _ A B a2 a3 ((aF M).trans (a4.mono (λ_ _ q=>aw q)))
  ·obtain⟨f,a2,a3,a4⟩:=FP r ex;injection f with f;have m:CE h=0:=by
    by_cases m:CE h=0
    ·exact m
    ·rw[AH m]at f;cases f
   refine⟨by unfold HW.arrV;rw[o,if_pos m,if_neg g,m];rfl,Aa ?_⟩;rw[t];exact S w' _ A B a2 a3 ((aF M).trans (a4.mono (λ_ _ q=>aw q)))
end
def WSt.send(s:WSt)(q:Pk):WSt:=if s.2.length<100 then{s with ps:=s.2++[q]}else{s with lost:=s.3+1}
def WSt.rem(s:WSt)(i:Nat):WSt:={s with ps:=s.2.take i++s.2.drop (i+1)}
section
variable{L L':Nat->Prop}{W:Nat}{s:WSt}{w w':ax}{col:Nat->Nat}{S c:Nat}{xs:List AJ}{v:bj}{ps:List Pc}
theorem WMx.pkAt(h:WMx L W s w col S c xs v ps){p:Pc}(a:p∈ps):∃q,PkL (λb=>col b=6/\b≠S) w p q:=by obtain⟨j,hj,rfl⟩:=aN.1 a;have d:=h.pl;exact⟨_,h.pk j _ _ (ad hj) (ad O)⟩
theorem WH{ok:Nat->Prop}{p:Pc}{q:Pk}(h:PkL ok w p q):∀u∈JC p,u.oneCell'=aE:=by obtain⟨-,-,-,-,a,d,e,-⟩:=h;intro u b;unfold JC at b;rw[e]at b;simp only[bW,List.not_mem_nil,or_false]at b;rcases b with rfl|rfl|rfl|rfl|rfl<;>rfl
theorem WMx.one(h:WMx L W s w col S c xs v ps):∀u∈BU ps,u.oneCell'=aE:=by intro u a;unfold BU at a;obtain⟨p,b,a⟩:=bM.1 a;obtain⟨q,hq⟩:=h.pkAt b;exact WH hq u a
theorem Mw(h:WMx L W s w col S c xs v ps){p:Pc}{q:Pk}(x:PkL (λb=>col b=6/\b≠S) w p q)(Q:s.2.length<=100)(M:0<=s.3/\s.3<=1000000):aq ab 54 #[ah (I ⟨W,0,E⟩),p.val] w λe w'=>e=ac (az #[])/\Hid (WM L W (s.send q) w'/\Only w w' (λb=>¬L b)):=by
 obtain⟨a,cv,rfl⟩:=Ao h.9;have d:=h.pl;have n:=x;obtain⟨-,-,-,-,t,y,u,-⟩:=n;by_cases e:s.2.length<100
 ·refine(Py W 10 p t _ y u _ a ps.length cv (BU ps) s.3 w h.1 h.9 (λk hk=>(h.vb k hk).2.2) h.16.5 O).mono ?_;rintro B w' ⟨rfl,r⟩;obtain⟨v',i,f,z,A⟩:=r.o;refine⟨rfl,Aa ?_⟩;have l:s.send q={s with ps:=s.2++[q],lost:=s.3}:=by unfold WSt.send;rw[if_pos e]
  rw[l];refine h.turn (ps':=ps++[p]) z i ?_ A (by simp[d]) (λj N P h1 h2=>?_)
  ·rw[M7,ae];have D:BU [p]=JC p:=by simp[BU]
   rw[D];exact f
  ·by_cases hj:j<ps.length
   ·rw[aC hj]at h1;rw[aC O]at h2;exact h.pk j N P h1 h2
   ·rw[av O]at h1 h2;rw[d]at h1;have m:j-s.2.length=0:=by have:=(aa.1 h1).1;simp at this;omega
    rw[m]at h1 h2;obtain rfl:=af h1;obtain rfl:=af h2;exact x
 ·refine(Px W p t _ y u _ a ps.length cv s.3 w h.1 O M).mono ?_;rintro B w' ⟨rfl,r⟩;obtain⟨i,f⟩:=r.o;refine⟨rfl,Aa ?_⟩;have l:s.send q={s with ps:=s.2,lost:=s.3+1}:=by unfold WSt.send;rw[if_neg e]
  rw[l];have H:Only w w' (λb=>b=W\/(aj a ps.length cv).ownBlock=I b):=bE f (λk e=>aw (af e).symm);refine h.turn (ps':=ps) H i (Au h.9 (λb g=>f.5 b (h.9.lt b g).2 (λe=>(h.vb b g).2.2 (af e)))) (λb g=>aw g) d h.pk
theorem GB{w:ax}{base n:Nat}{v:bj}{xs:List bj}(h:w.ownsRow base 115 5 v n xs)(d:0<n):∃g a,v=aj (I ⟨g,0,E⟩) n a:=by
 rcases h.2 with⟨-,h1⟩|⟨g,a,b,h0,-⟩
 ·omega
 ·exact⟨g,a,h0⟩
theorem WMx.removed{lost:Int}{g d i:Nat}(h:WMx L W s w col S c xs (aj (I ⟨g,0,E⟩) ps.length d) ps)(r:Vt W g 10 d (aj (I ⟨S,0,E⟩) xs.length c) ps.length ps i lost w w')(t:i<ps.length)(f:lost=s.3):WM L W (s.rem i) w'/\Only w w' (λb=>¬L b):=by
 obtain⟨l,m,n⟩:=r;have k:=h.pl;subst f;have a:(ps.take i++ps.drop (i+1)).length=ps.length-1:=by rw[ae,au,aH];omega
 refine h.turn (ps':=ps.take i++ps.drop (i+1)) (n.mono (λb _ q=>q.imp id (λe=>by rw[e];rfl))) l (by rw[a];exact m) (λb o=>aw o) (by rw[a,ae,au,aH];omega) (λj p q h1 h2=>?_);by_cases hj:j<i
 ·rw[aC (by rw[au];omega),List.getElem?_take_of_lt hj]at h1 h2;exact h.pk j p q h1 h2
 ·rw[av (by rw[au];omega),au,cx]at h1 h2;exact h.pk (i+1+(j-min i ps.length)) p q h1 (by rw[k];exact h2)
theorem WMx.net1(h:WMx L W s w col S c xs v ps):w.cell? ⟨W,1,E⟩=I v:=by rw[h.1.cell];rfl
theorem Xm(d:WM L W s w)(k:s.2.length<=100){i:Nat}(j:i<s.2.length):aq ab 24 #[ah (I ⟨W,0,E⟩),Y G (i:Int)] w λe w'=>e=ac aQ/\Hid (WM L W (s.rem i) w'/\Only w w' (λb=>¬L b)):=by obtain⟨col,S,c,xs,v,ps,h⟩:=d;have f:=h.pl;obtain⟨g,a,rfl⟩:=GB h.9 O;refine(Se W g ps.length a 10 _ ps i s.3 w h.1 rfl O O h.one h.9 (h.vb g rfl).2.2).mono ?_;rintro e w' ⟨rfl,r⟩;exact⟨rfl,Aa (h.removed r.o O rfl)⟩
theorem Qv(b:WM L W s w):aq ab 18 #[ah (I ⟨W,0,E⟩)] w λe w'=>e=ac (Y G (s.2.length:Int))/\w=w':=by obtain⟨col,S,c,xs,v,ps,h⟩:=b;obtain⟨a,cv,rfl⟩:=Ao h.9;rw[<-h.pl];exact Si W a ps.length cv w h.net1
theorem Xo(d:WM L W s w)(g:s.2.length<=100){i:Int}(f:Dq s.2.length i=ai):aq ab 24 #[ah (I ⟨W,0,E⟩),Y G i] w λe w'=>e=ac (cf 70 (Y G 2))/\w=w':=by obtain⟨col,S,c,xs,v,ps,h⟩:=d;obtain⟨a,cv,rfl⟩:=Ao h.9;have b:=h.pl;exact U7 W i a ps.length cv w h.net1 O (by rw[b];exact f)
theorem WMx.parcel{g a:Nat}(h:WMx L W s w col S c xs (aj (I ⟨g,0,E⟩) ps.length a) ps){i:Nat}{p:Pc}(b:ps[i]?=I p):∀j,j<5->w.cell? ⟨g,i*5+j,E⟩=(JC p)[j]?:=λj hj=>by have d:=(aa.1 b).1;rw[h.9.cellAt (i*5+j) O];have e:=cx (xs:=BU ps) (i:=i*5) (j:=j);rw[<-e,GP];obtain⟨-,rfl⟩:=aa.1 b;rw[aT d,Eb,aC (by simp[JC];omega)]
theorem Vh(r:WM L W s w)(u:s.2.length<=100)(d:0<=s.3/\s.3<=1000000){i:Nat}{q:Pk}(k:s.2[i]?=I q):aq ab 25 #[ah (I ⟨W,0,E⟩),Y G (i:Int)] w λe w'=>e=ac aQ/\Hid (WM L W (s.send q) w'/\Only w w' (λb=>¬L b)):=by obtain⟨col,S,c,xs,v,ps,h⟩:=r;have x:=h.pl;have t:=(aa.1 k).1;obtain⟨g,j,rfl⟩:=GB h.9 O;obtain⟨pc,l⟩:∃pc,ps[i]?=I pc:=⟨_,ad O⟩;have f:=h.pk i pc q l k;have HS:=Aa (Mw h f u d);have c1:=h.net1;have a:=h.parcel l;have m:=Aa (CN W (i:Int) _ ps.length j w c1 O);rw[BT O]at m;obtain⟨fr,nu,ack,lv,dst⟩:=pc;have z:w.cell? ⟨g,i*5,E⟩=I (Y G fr):=a 0 O;have A:w.cell? ⟨g,i*5+1,E⟩=I (Y G nu):=a 1 O;have B:w.cell? ⟨g,i*5+2,E⟩=I (bq ack):=a 2 O;have D:w.cell? ⟨g,i*5+3,E⟩=I lv:=a 3 O;have H:w.cell? ⟨g,i*5+4,E⟩=I (Y G dst):=a 4 O;obtain⟨-,-,-,-,y,M,n,-⟩:=f;simp only at n;subst n;simp only[Pc.val]at HS;have p:i<ps.length:=O;clear a h l k d;go_enter df,cY;go_wp2_with(go_at_call 55;go_must(refine m.o.mono ?_);rintro e w1 ⟨rfl,rfl⟩;refine ak ?_);refine Aa ?_;go_wp2_with(go_at_call 54;go_must(refine HS.o.mono ?_);rintro e w1 ⟨rfl,h1⟩;refine ak ?_);refine Aa ?_;go_wp2;go_ret;exact⟨rfl,h1⟩
theorem N4(f:WM L W s w)(j:s.2.length<=100){i:Int}(g:Dq s.2.length i=ai):aq ab 25 #[ah (I ⟨W,0,E⟩),Y G i] w λe w'=>e=ac (cf 70 (Y G 2))/\w=w':=by obtain⟨col,S,c,xs,v,ps,h⟩:=f;obtain⟨a,cv,rfl⟩:=Ao h.9;have b:=h.pl;have d:=Aa (CN W i a ps.length cv w h.net1 O);rw[b,g]at d;clear h;go_enter df,cY;go_wp2_with(go_at_call 55;go_must(refine d.o.mono ?_);rintro e w1 ⟨rfl,rfl⟩;refine ak ?_);refine Aa ?_;go_wp2;go_ret;exact⟨rfl,rfl⟩
end
section
variable{L L':Nat->Prop}{W:Nat}{s:WSt}{w w':ax}{h:HW}{k i p:Nat}
theorem WMx.up{a:Nat->Nat}{S c:Nat}{xs:List AJ}{v:bj}{ps:List Pc}(hm:WMx L W s w a S c xs v ps)(hk:s.1[k]?=I h)(h0:HOk h k i p){x:AJ}(hx:xs[k]?=I x):Up x h.st h.4:=by obtain⟨b,e,d⟩:=hm.7 k x h hx hk;exact⟨by rw[b];exact h0.1.1.log h0.big.2,rfl,d⟩
theorem Fx(b:WM L W s w)(hk:s.1[k]?=I h)(h0:HOk h k i p):aq ab 34 #[ah (I ⟨W,0,E⟩),Y G (k:Int)] w λe w'=>e=ac (ah (I ⟨h.H,0,E⟩))/\aA w.1.size w w':=by obtain⟨a,S,c,xs,v,ps,hm⟩:=b;obtain⟨x,hx,d⟩:=hm.at_ hk;have:=Fi hm.ws hx (by have:=(hm.hx hx hk).1;rw[<-(hm.7 k x h hx hk).2.1]at this;exact this) hm.16 (hm.up hk h0 hx);rw[(hm.7 k x h hx hk).2.1]at this;exact this
theorem Eo(b:WM L W s w)(hk:s.1[k]?=I h)(h0:HOk h k i p):aq ab 11 #[ah (I ⟨W,0,E⟩),Y G (k:Int)] w λe w'=>e=ac (az #[ah (I ⟨h.H,0,E⟩),aQ])/\aA w.1.size w w':=by obtain⟨a,S,c,xs,v,ps,hm⟩:=b;obtain⟨x,hx,d⟩:=hm.at_ hk;have:=Po hm.ws hx (by have:=(hm.hx hx hk).1;rw[<-(hm.7 k x h hx hk).2.1]at this;exact this) hm.16 (hm.up hk h0 hx);rw[(hm.7 k x h hx hk).2.1]at this;exact this
theorem Mv(b:WM L W s w)(j:Int):aq ab 33 #[ah (I ⟨W,0,E⟩),Y G j] w λe w'=>e=ac (bq (Dq s.1.length j))/\w=w':=by obtain⟨a,S,c,xs,v,ps,hm⟩:=b;rw[<-hm.6];exact IT hm.ws j
theorem Gv{w:ax}{B n:Nat}{v:bj}{ms:List Mg}(h:w.ownsRow B 52 5 v n (AK ms))(d:n=ms.length):∃a kc,v=aj a ms.length kc/\MsAt (λb=>B<=b/\b<w.1.size) w a ms:=by
 subst d;rcases own_rowM h with⟨rfl,rfl⟩|⟨g,c,rfl,hc⟩
 ·exact⟨E,0,rfl,λj x hx=>by simp at hx⟩
 ·refine⟨_,c,rfl,λj x hx=>?_⟩;obtain⟨h1,h2⟩:=h.lt g rfl;refine⟨g,0,rfl,h2,⟨h1,h2⟩,λk hk=>?_⟩;have hj:=(aa.1 hx).1;rw[h.cellAt (0+j*5+k) O];have e:0+j*5+k=j*5+k:=O;rw[e];exact OR _ j x hx k hk
def WSt.sendB(s:WSt)(k:Nat)(h:HW)(far:Nat):WSt:=if h.batE far=0 then(s.setH k (h.bat far)).send ⟨(k:Int),h.batN far,ai,h.batL far,(far:Int)⟩else s.setH k (h.bat far)
theorem Qs(u:WM L W s w)(hk:s.1[k]?=I h)(h0:HOk h k i p){far:Nat}(hf:far<s.1.length)(P:s.2.length<=100)(n:0<=s.3/\s.3<=1000000):aq ab 22 #[ah (I ⟨W,0,E⟩),Y G (k:Int),Y G (far:Int)] w λe w'=>e=ac (AY (h.batE far))/\Hid (WM L W (s.sendB k h far) w'/\Only w w' (λb=>¬L b)):=by
 have M:=(aa.1 hk).1;have l:=Aa (Mv u (k:Int));have m:=Aa (Mv u (far:Int));rw[BT M]at l;rw[BT hf]at m;have U:=Aa (Fx u hk h0);have g:Hid (∀w1,aA w.1.size w w1->aq ab 53 #[ah (I ⟨h.H,0,E⟩),Y G (far:Int)] w1 λe w'=>∃a f,e=ac (az #[Y G (h.batN far),aj a (h.batL far).length f,AY (h.batE far)])/\Hid (∃d S c xs v ps,WMx L W (s.setH k (h.bat far)) w' d S c xs v ps/\Only w w' (λb=>¬L b)/\MsAt (λb=>d b=6/\b≠S) w' a (h.batL far))):=Aa (λw1 X=>by
  refine(U9 (u.below X) hk h0 far).mono ?_;rintro e w' ⟨v',A,rfl,r⟩;obtain⟨t,Q,R,r4⟩:=r.o;obtain⟨a,f,rfl,N⟩:=Gv r4 rfl;refine⟨a,f,rfl,Aa ?_⟩;obtain⟨d,S,c,xs,v,ps,t⟩:=t;obtain⟨x,g1,y,-⟩:=t.other (w':=w') (L':=L) (aF R) (λb D=>⟨aw D,ay (t.hL b D).1 R.4⟩);refine⟨x,S,c,xs,v,ps,g1,?_,N.on (ag _) (λb D hc=>⟨y b hc.1 (λhl=>?_),rfl⟩)⟩
  ·exact((aF X).trans (Q.mono (λ_ _ q=>aw q))).trans (aF R)
  ·have:=(t.hL b hl).1;omega);by_cases z:h.batE far=0
 ·have HS:Hid (∀w1 a f,(∃d S c xs v ps,WMx L W (s.setH k (h.bat far)) w1 d S c xs v ps/\Only w w1 (λb=>¬L b)/\MsAt (λb=>d b=6/\b≠S) w1 a (h.batL far))->aq ab 54 #[ah (I ⟨W,0,E⟩),ct #[Y G (k:Int),Y G (h.batN far),bq ai,aj a (h.batL far).length f,Y G (far:Int)]] w1 λe w'=>e=ac (az #[])/\Hid (WM L W (s.sendB k h far) w'/\Only w w' (λb=>¬L b))):=Aa (λw1 a f ⟨d,S,c,xs,v,ps,g1,y,V⟩=>by refine(Mw (p:=⟨(k:Int),h.batN far,ai,aj a (h.batL far).length f,(far:Int)⟩) (q:=⟨(k:Int),h.batN far,ai,h.batL far,(far:Int)⟩) g1 ⟨rfl,rfl,rfl,rfl,a,f,rfl,V⟩ P n).mono ?_;rintro e w' ⟨rfl,r⟩;obtain⟨t,Q⟩:=r.o;refine⟨rfl,Aa ⟨?_,y.trans (Q.mono (λ_ _ q=>aw q))⟩⟩;unfold WSt.sendB;rw[if_pos z];exact t);rw[z]at g⊢;have ee:AY 0=aQ:=rfl;rw[ee]at g⊢;generalize h.batN far=bn at g HS;generalize(h.batL far).length=bl at g HS;clear u hk h0 P n;go_enter de,cX;go_wp2_with(go_at_call 33;go_must(refine l.o.mono ?_);rintro e w1 ⟨rfl,rfl⟩;refine ak ?_);refine Aa ?_;go_wp2_with(go_at_call 33;go_must(refine m.o.mono ?_);rintro e w1 ⟨rfl,rfl⟩;refine ak ?_);refine Aa ?_;go_wp2_with(go_at_call 34;go_must(refine U.o.mono ?_);rintro e w1 ⟨rfl,h1⟩;refine ak ?_);refine Aa ?_;have j:=Aa (g.o w1 h1);go_wp2_with(go_at_call 53;go_must(refine j.o.mono ?_);rintro e A ⟨a,f,rfl,h2⟩;refine ak ?_);refine Aa ?_;have B:=Aa (HS.o A a f h2.o);go_wp2_with(go_at_call 54;go_must(refine B.o.mono ?_);rintro e w3 ⟨rfl,h3⟩;refine ak ?_);refine Aa ?_;go_wp2;go_ret;exact⟨rfl,h3⟩
 ·have HF:Hid (∀w1 a,(∃d S c xs v ps,WMx L W (s.setH k (h.bat far)) w1 d S c xs v ps/\Only w w1 (λb=>¬L b)/\MsAt (λb=>d b=6/\b≠S) w1 a (h.batL far))->WM L W (s.sendB k h far) w1/\Only w w1 (λb=>¬L b)):=Aa (λw1 a ⟨d,S,c,xs,v,ps,g1,y,V⟩=>by unfold WSt.sendB;rw[if_neg z];exact⟨⟨d,S,c,xs,v,ps,g1⟩,y⟩);rw[AH z]at g⊢;generalize h.batN far=bn at g;generalize(h.batL far).length=bl at g;generalize h.batE far=be at g;clear u hk h0 P n;go_enter de,cX;go_wp2_with(go_at_call 33;go_must(refine l.o.mono ?_);rintro e w1 ⟨rfl,rfl⟩;refine ak ?_);refine Aa ?_;go_wp2_with(go_at_call 33;go_must(refine m.o.mono ?_);rintro e w1 ⟨rfl,rfl⟩;refine ak ?_);refine Aa ?_;go_wp2_with(go_at_call 34;go_must(refine U.o.mono ?_);rintro e w1 ⟨rfl,h1⟩;refine ak ?_);refine Aa ?_;have j:=Aa (g.o w1 h1);go_wp2_with(go_at_call 53;go_must(refine j.o.mono ?_);rintro e A ⟨a,f,rfl,h2⟩;refine ak ?_);refine Aa ?_;go_wp2;go_ret;exact⟨rfl,Aa (HF.o A a h2.o)⟩
end
def WSt.comes(a:(p:Prop)->Decidable p)(s:WSt)(k:Nat)(h:HW)(q:Pk):WSt:=
 if q.3=aE then s.setH k (h.came q.1 q.2)
 else if HW.arrE a h q.1 q.2 q.4=0 then(s.setH k (HW.arr a h q.1 q.2 q.4)).send ⟨q.5,HW.arrV a h q.1 q.2 q.4,aE,[],q.1⟩else s.setH k (HW.arr a h q.1 q.2 q.4)
section
variable{L L':Nat->Prop}{W:Nat}{s:WSt}{w w':ax}{h:HW}{k i p:Nat}
def boxP(w:ax)(B:Nat)(fr nu:Int)(ack:Bool)(lv:bj)(dst:Int):Prop:=Blk w B #[Y G fr,Y G nu,bq ack,lv,Y G dst] 115
theorem boxP.cells{w:ax}{B:Nat}{fr nu:Int}{ack:Bool}{lv:bj}{dst:Int}(h:boxP w B fr nu ack lv dst):w.cell? ⟨B,0,E⟩=I (Y G fr)/\w.cell? ⟨B,1,E⟩=I (Y G nu)/\w.cell? ⟨B,2,E⟩=I (bq ack)/\w.cell? ⟨B,3,E⟩=I lv/\w.cell? ⟨B,4,E⟩=I (Y G dst):=by have h:Blk w B #[Y G fr,Y G nu,bq ack,lv,Y G dst] 115:=h;exact⟨h.cell 0,h.cell 1,h.cell 2,h.cell 3,h.cell 4⟩
theorem Vb(hM:WM L W s w){q:Pk}{pc:Pc}{ok:Nat->Prop}(hp:PkL ok w pc q)(hd:q.5=(k:Int))(hk:s.1[k]?=I h)(h0:HOk h k i p)(D:s.2.length<=100)(P:0<=s.3/\s.3<=1000000)(h6:q.4.length<=6)(hr:∀x∈q.4,right x=aE):aq ab 57 #[ah (I ⟨W,0,E⟩),pc.val] w λe w'=>e=ac (az #[])/\Hid (WM L W (WSt.comes F s k h q) w'/\Only w w' (λb=>¬L b)):=by
 obtain⟨fr,nu,ack,lv,dst⟩:=pc;obtain⟨qf,qn,qa,f,qd⟩:=q;obtain⟨e1,e2,e3,e4,a,R,e5,B⟩:=hp;simp only at e1 e2 e3 e4 e5 hd h6 hr B;subst e1 e2 e3 e4 e5 hd;simp only[Pc.val];have d:=(aB w.1.size w).alloc (ag _) (bb #[Y G fr,Y G nu,bq ack,aj a f.length R,Y G (k:Int)] 115);have m:=Blk.new w #[Y G fr,Y G nu,bq ack,aj a f.length R,Y G (k:Int)] 115;obtain⟨W0,a4⟩:∃W0,w.alloc (bb #[Y G fr,Y G nu,bq ack,aj a f.length R,Y G (k:Int)] 115)=W0:=⟨_,rfl⟩;rw[a4]at d m;have N:boxP W0 w.1.size fr nu ack (aj a f.length R) (k:Int):=m;have a0:w.1.size<W0.1.size:=(aX.1 m).1;have A:∀b,L b->b<w.1.size:=λb u=>by obtain⟨a3,S,c,xs,v,ps,hm⟩:=hM;exact(hm.hL b u).1
 have n:WM (λb=>L b\/b=w.1.size) W s W0:=hM.more (aF d) (λb u=>by
  rcases u with u|rfl
  ·exact⟨aw u,ay (A b u) d.4⟩
  ·exact⟨aG (ag _),a0⟩);have HL:=Aa (Fx n hk h0);have l:∀s' w',WM (λb=>L b\/b=w.1.size) W s' w'->Only W0 w' (λb=>¬(L b\/b=w.1.size))->WM L W s' w'/\Only w w' (λb=>¬L b):=λs' w' g1 M=>by
  refine⟨g1.more (bz _ _) (λb u=>⟨aw (aw u),?_⟩),((aF d).trans (M.mono (λb _ D=>?_)))⟩
  ·exact ay (A b u) (bu d.4 M.4)
  ·exact aw (λhl=>D (aw hl))
 have z:∀w1,aA W0.1.size W0 w1->boxP w1 w.1.size fr nu ack (aj a f.length R) (k:Int):=λw1 t=>Blk.after (cs:=#[Y G fr,Y G nu,bq ack,aj a f.length R,Y G (k:Int)]) m t;obtain⟨c0,c1,c2,c3,c4⟩:=N.cells;cases ack with
 |true=>have HC:Hid (∀w1,aA W0.1.size W0 w1->(w1.cell? ⟨w.1.size,0,E⟩=I (Y G fr)/\w1.cell? ⟨w.1.size,1,E⟩=I (Y G nu)/\w1.cell? ⟨w.1.size,2,E⟩=I (bq aE))/\aq ab 98 #[ah (I ⟨h.H,0,E⟩),Y G fr,Y G nu] w1 λe w'=>(∃v,e=ac v)/\Hid (WM L W (WSt.comes F s k h ⟨fr,nu,aE,f,(k:Int)⟩) w'/\Only w w' (λb=>¬L b))):=Aa (λw1 t=>by obtain⟨U,X,d2,d3,d4⟩:=(z w1 t).cells;refine⟨⟨U,X,d2⟩,(Xk (n.below t) hk h0 fr nu).mono ?_⟩;rintro e w' ⟨rfl,r⟩;obtain⟨r1,V⟩:=r.o;refine⟨⟨_,rfl⟩,Aa ?_⟩;unfold WSt.comes;rw[if_pos rfl];exact l _ w' r1 ((aF t).trans (V.mono (λ_ _ q=>aw q))));clear hM n hk h0 D P h6 hr B m N l z d A;go_enter cJ,cA;go_wp2_with(go_at_call 34;go_must(refine HL.o.mono ?_);rintro e w1 ⟨rfl,h1⟩;refine ak ?_);refine Aa ?_;obtain⟨⟨U,X,d2⟩,g⟩:=HC.o w1 h1;have y:=Aa g;clear g;go_wp2_with(go_at_call 98;go_must(refine y.o.mono ?_);rintro e w2 ⟨⟨v2,rfl⟩,h2⟩;refine ak ?_);refine Aa ?_;go_wp2;go_returns;exact⟨rfl,h2⟩
 |false=>
  have Q:Hid (∀w1,aA W0.1.size W0 w1->(w1.cell? ⟨w.1.size,0,E⟩=I (Y G fr)/\w1.cell? ⟨w.1.size,1,E⟩=I (Y G nu)/\w1.cell? ⟨w.1.size,2,E⟩=I (bq ai)/\w1.cell? ⟨w.1.size,3,E⟩=I (aj a f.length R))/\aq ab 99 #[ah (I ⟨h.H,0,E⟩),Y G fr,Y G nu,aj a f.length R] w1 λe w'=>e=ac (az #[Y G (HW.arrV F h fr nu f),AY (HW.arrE F h fr nu f)])/\Hid (WM L W (s.setH k (HW.arr F h fr nu f)) w'/\Only w w' (λb=>¬L b)/\w'.cell? ⟨w.1.size,0,E⟩=I (Y G fr)/\w'.cell? ⟨w.1.size,4,E⟩=I (Y G (k:Int)))):=Aa (λw1 t=>by obtain⟨U,X,d2,d3,d4⟩:=(z w1 t).cells;refine⟨⟨U,X,d2,d3⟩,(Pq (ok:=λ_=>True) (n.below t) hk h0 fr nu h6 (B.on (bu d.4 t.4) (λb u _=>⟨trivial,((t.5 b (ay u d.4)).trans (d.5 b u))⟩)) hr).mono ?_⟩;rintro e w' ⟨rfl,r⟩;obtain⟨r1,V⟩:=r.o;obtain⟨f1,f2⟩:=l _ w' r1 ((aF t).trans (V.mono (λ_ _ q=>aw q)));have a1:w.1.size<w1.1.size:=ay a0 t.4;exact⟨rfl,Aa ⟨f1,f2,(V.cell a1 (λD=>D (aG rfl))).trans U,(V.cell a1 (λD=>D (aG rfl))).trans d4⟩⟩);by_cases e0:HW.arrE F h fr nu f=0
  ·have HS:Hid (∀w1,WM L W (s.setH k (HW.arr F h fr nu f)) w1->Only w w1 (λb=>¬L b)->aq ab 54 #[ah (I ⟨W,0,E⟩),ct #[Y G (k:Int),Y G (HW.arrV F h fr nu f),bq aE,aj E 0 0,Y G fr]] w1 λe w'=>e=ac (az #[])/\Hid (WM L W (WSt.comes F s k h ⟨fr,nu,ai,f,(k:Int)⟩) w'/\Only w w' (λb=>¬L b))):=Aa (λw1 g1 M=>by obtain⟨a3,S,c,xs,v,ps,g1⟩:=g1;refine(Mw (p:=⟨(k:Int),HW.arrV F h fr nu f,aE,aj E 0 0,fr⟩) (q:=⟨(k:Int),HW.arrV F h fr nu f,aE,[],fr⟩) g1 ⟨rfl,rfl,rfl,rfl,E,0,rfl,λj x hx=>by simp at hx⟩ D P).mono ?_;rintro e w' ⟨rfl,r⟩;obtain⟨r1,V⟩:=r.o;refine⟨rfl,Aa ⟨?_,M.trans (V.mono (λ_ _ q=>aw q))⟩⟩;unfold WSt.comes;rw[if_neg oS,if_pos e0];exact r1);rw[e0]at Q;have ee:AY 0=aQ:=rfl;rw[ee]at Q;generalize HW.arrV F h fr nu f=bn at Q HS;clear hM n hk h0 D P h6 hr B m N l z d A;go_enter cJ,cA;go_wp2_with(go_at_call 34;go_must(refine HL.o.mono ?_);rintro e w1 ⟨rfl,h1⟩;refine ak ?_);refine Aa ?_;obtain⟨⟨U,X,d2,d3⟩,g⟩:=Q.o w1 h1;have y:=Aa g;clear g;go_wp2_with(go_at_call 99;go_must(refine y.o.mono ?_);rintro e w2 ⟨rfl,h2⟩;refine ak ?_);refine Aa ?_;obtain⟨g1,M,g3,g4⟩:=h2.o;have a2:=Aa (HS.o w2 g1 M);clear h2 g1 M;go_wp2_with(go_at_call 54;go_must(refine a2.o.mono ?_);rintro e w3 ⟨rfl,h3⟩;refine ak ?_);refine Aa ?_;go_wp2;go_end0;exact⟨rfl,h3⟩
  ·have HF:Hid (∀w1,WM L W (s.setH k (HW.arr F h fr nu f)) w1->WM L W (WSt.comes F s k h ⟨fr,nu,ai,f,(k:Int)⟩) w1):=Aa (λw1 g1=>by unfold WSt.comes;rw[if_neg oS,if_neg e0];exact g1);rw[AH e0]at Q;generalize HW.arrV F h fr nu f=bn at Q;generalize HW.arrE F h fr nu f=be at Q;clear hM n hk h0 D P h6 hr B m N l z d A;go_enter cJ,cA;go_wp2_with(go_at_call 34;go_must(refine HL.o.mono ?_);rintro e w1 ⟨rfl,h1⟩;refine ak ?_);refine Aa ?_;obtain⟨⟨U,X,d2,d3⟩,g⟩:=Q.o w1 h1;have y:=Aa g;clear g;go_wp2_with(go_at_call 99;go_must(refine y.o.mono ?_);rintro e w2 ⟨rfl,h2⟩;refine ak ?_);refine Aa ?_;go_wp2;go_returns;obtain⟨g1,M,-⟩:=h2.o;exact⟨rfl,Aa ⟨HF.o w2 g1,M⟩⟩
end
section
variable{L L':Nat->Prop}{W:Nat}{s:WSt}{w w':ax}{h:HW}{k i p:Nat}
theorem Sh{a:Nat->Nat}{S c:Nat}{xs:List AJ}{v:bj}{ps:List Pc}(hm:WMx L W s w a S c xs v ps)(f:s.2.length<=100){j:Nat}(hj:j<s.2.length){pc:Pc}{q:Pk}(m:PkL (λb=>a b=6/\b≠S) w pc q):aq ab 56 #[ah (I ⟨W,0,E⟩),Y G (j:Int)] w λe w'=>e=ac (az #[])/\Hid (WM L W (s.rem j) w'/\Only w w' (λb=>¬L b)/\PkL (λ_=>True) w' pc q):=by
 have n:=hm.pl;obtain⟨g,d,rfl⟩:=GB hm.9 O;refine(Iz W g ps.length d 10 _ ps j s.3 w hm.1 rfl O O hm.one hm.9 (hm.vb g rfl).2.2).mono ?_;rintro e w' ⟨rfl,r⟩;obtain⟨f1,f2⟩:=hm.removed r.o O rfl;refine⟨rfl,Aa ⟨f1,f2,m.on r.o.2.2.4 (λb l hc=>⟨trivial,r.o.2.2.5 b l (λf=>?_)⟩)⟩⟩;rcases f with rfl|rfl
 ·have:=hm.cW;omega
 ·have:=(hm.vb b rfl).1;omega
theorem JW(hM:WM L W s w){j:Nat}{q:Pk}(hj:s.2[j]?=I q)(hd:q.5=(k:Int))(hk:s.1[k]?=I h)(h0:HOk h k i p)(t:s.2.length<=100)(X:0<=s.3/\s.3<=1000000)(h6:q.4.length<=6)(hr:∀x∈q.4,right x=aE):aq ab 23 #[ah (I ⟨W,0,E⟩),Y G (j:Int)] w λe w'=>e=ac aQ/\Hid (WM L W (WSt.comes F (s.rem j) k h q) w'/\Only w w' (λb=>¬L b)):=by
 have n:∀b,L b->b<w.1.size:=λb f=>by obtain⟨N,S,c,xs,v,ps,hm⟩:=hM;exact(hm.hL b f).1
 obtain⟨N,S,c,xs,v,ps,hm⟩:=hM;have a2:=hm.pl;have U:=(aa.1 hj).1;obtain⟨g,M,rfl⟩:=GB hm.9 O;obtain⟨pc,hp⟩:∃pc,ps[j]?=I pc:=⟨_,ad O⟩;have u:=hm.pk j pc q hp hj;have c1:=hm.net1;have a:=hm.parcel hp;have HU:=Aa (CN W (j:Int) _ ps.length M w c1 O);rw[BT O]at HU;obtain⟨fr,nu,ack,lv,dst⟩:=pc;have d0:w.cell? ⟨g,j*5,E⟩=I (Y G fr):=a 0 O;have d1:w.cell? ⟨g,j*5+1,E⟩=I (Y G nu):=a 1 O;have d2:w.cell? ⟨g,j*5+2,E⟩=I (bq ack):=a 2 O;have d3:w.cell? ⟨g,j*5+3,E⟩=I lv:=a 3 O;have d4:w.cell? ⟨g,j*5+4,E⟩=I (Y G dst):=a 4 O;obtain⟨D,H,P⟩:∃D H,lv=aj D q.4.length H:=by obtain⟨-,-,-,-,D,H,P,-⟩:=u;exact⟨D,H,P⟩
 have d:=(aB w.1.size w).alloc (ag _) (bb #[Y G fr,Y G nu,bq ack,lv,Y G dst] 115);have l:=Blk.new w #[Y G fr,Y G nu,bq ack,lv,Y G dst] 115;obtain⟨W0,Q⟩:∃W0,w.alloc (bb #[Y G fr,Y G nu,bq ack,lv,Y G dst] 115)=W0:=⟨_,rfl⟩;rw[Q]at d l;have z:w.1.size<W0.1.size:=(aX.1 l).1;obtain⟨y,B,R,A⟩:=hm.other (w':=W0) (L':=λb=>L b\/b=w.1.size) (aF d) (λb f=>by
  rcases f with f|rfl
  ·exact⟨aw f,ay (n b f) d.4⟩
  ·exact⟨aG (ag _),z⟩);have m:PkL (λb=>y b=6/\b≠S) W0 ⟨fr,nu,ack,lv,dst⟩ q:=u.on d.4 (λb f hc=>⟨⟨(A b f).trans hc.1,hc.2⟩,d.5 b f⟩);have HR:Hid (aq ab 56 #[ah (I ⟨W,0,E⟩),Y G (j:Int)] W0 λe w'=>e=ac (az #[])/\Hid (boxP w' w.1.size fr nu ack lv dst/\(aq ab 57 #[ah (I ⟨W,0,E⟩),ct #[Y G fr,Y G nu,bq ack,lv,Y G dst]] w' λe w'=>e=ac (az #[])/\Hid (WM L W (WSt.comes F (s.rem j) k h q) w'/\Only w w' (λb=>¬L b))))):=Aa (by
  refine(Sh B t U m).mono ?_;rintro e w1 ⟨rfl,r⟩;obtain⟨r1,r2,r3⟩:=r.o;refine⟨rfl,Aa ⟨(r2.5 w.1.size z (λt=>t (aG rfl))).trans l,?_⟩⟩;have a0:(s.rem j).2.length<=100:=by show(s.2.take j++s.2.drop (j+1)).length<=100;rw[ae,au,aH];omega
  refine(Vb r1 r3 hd hk h0 a0 X h6 hr).mono ?_;rintro e w2 ⟨rfl,g⟩;obtain⟨g1,g2⟩:=g.o;refine⟨rfl,Aa ⟨g1.more (bz _ _) (λb f=>⟨aw (aw f),?_⟩),?_⟩⟩
  ·exact ay (n b f) (bu d.4 (bu r2.4 g2.4))
  ·exact((aF d).trans (r2.mono (λb _ t=>aw (λV=>t (aw V))))).trans (g2.mono (λb _ t=>aw (λV=>t (aw V)))));have a1:j<ps.length:=O;subst P;clear hm B u m R A l d a hp hj hk h0 n hr;go_enter func23,ntmps23;go_wp2_with(go_at_call 55;go_must(refine HU.o.mono ?_);rintro e w1 ⟨rfl,rfl⟩;refine ak ?_);refine Aa ?_;go_wp2_with(go_at_call 56;go_must(refine HR.o.mono ?_);rintro e w1 ⟨rfl,h1⟩;refine ak ?_);refine Aa ?_;obtain⟨f,hC⟩:=h1.o;obtain⟨b0,b1,b2,b3,b4⟩:=f.cells;have HC:=Aa hC;clear hC f h1;go_wp2_with(go_at_call 57;go_must(refine HC.o.mono ?_);rintro e w2 ⟨rfl,h2⟩;refine ak ?_);refine Aa ?_;go_wp2;go_ret;exact⟨rfl,h2⟩
end
section
variable{L L':Nat->Prop}{W:Nat}{s:WSt}{w w':ax}{h:HW}{k i p:Nat}{col:Nat->Nat}{S c:Nat}{xs:List AJ}{v:bj}{ps:List Pc}
theorem WMx.anew(hm:WMx L W s w col S c xs v ps){V hw':HW}{x x':AJ}(hx:xs[k]?=I x)(hk:s.1[k]?=I V)(N:x'.d=hw'.d)(D:x'.H=hw'.H)(P:x'.3<=(hw'.4.length:Int))(X:SB w' S (xs.set k x'))(q2:Hx (λb=>b<w.1.size/\b≠S) hw'.H (BQ S xs k x) hw'.st w')(r:w.grownBy w' (I S)):WM L W (s.setH k hw') w'/\Only w w' (λb=>¬L b):=by
 obtain⟨M,lS⟩:=hm.lt;have t:=(aa.1 hx).1;have o:=(aa.1 hk).1;have l:∀b,b<w.1.size->b≠S->w'.1[b]?=w.1[b]?:=λb a Q=>r.5 b a (λe=>Q (af e));have g:∀b,b<w.1.size->DA col k w b=col b:=λb a=>if_pos a;refine⟨⟨DA col k w,S,c,xs.set k x',v,ps,?_,X,by rw[aU];exact hm.3,hm.4,hm.5,by rw[aU,hm.6];exact(aU ..).symm,?_,?_,Au hm.9 (λb a=>l b (hm.9.lt b a).2 (hm.vb b a).2.1),?_,(g W M).trans hm.cW,hm.pl,?_,?_,λb a=>by rw[g b (by have:=hm.16.5;omega)];exact hm.15 b a,hm.16.grown r hm.4.1⟩,bE r (λb e R=>(hm.hL b R).2.2 (af e).symm)⟩
 ·rw[aU];exact(l W M hm.5).trans hm.1
 ·intro j y hj m n;by_cases e:j=k
  ·subst e;rw[aR t]at m;have n:(s.1.set j hw')[j]?=I hj:=n;rw[aR o]at n;obtain rfl:=af m;obtain rfl:=af n;exact⟨N,D,P⟩
  ·rw[bk (λq=>e q.symm)]at m;have n:(s.1.set k hw')[j]?=I hj:=n;rw[bk (λq=>e q.symm)]at n;exact hm.7 j y hj m n
 ·intro j y st m f;have f:((s.1.set k hw').map dj)[j]?=I st:=f;rw[List.map_set]at f;by_cases e:j=k
  ·subst e;rw[aR t]at m;rw[aR (by rw[cc];exact o)]at f;obtain rfl:=af m;obtain rfl:=af f;rw[D];refine(q2.more (w':=w') (bz _ _) (λb a=>?_)).place rfl rfl;obtain⟨z,A,B⟩:=a;refine⟨aw ?_,z⟩;by_cases a:b<w.1.size
   ·exact⟨a,A⟩
   ·exact absurd (if_neg a) B
  ·rw[bk (λq=>e q.symm)]at m f;refine((hm.8 j y st m f).more (w':=w') (bE r (λb e=>aG (af e).symm)) (λb a=>?_)).place rfl rfl;obtain⟨z,A,B⟩:=a;refine⟨?_,z⟩;by_cases a:b<w.1.size
   ·exact aw ⟨a,A,by rw[<-g b a];exact B⟩
   ·exact aG O
 ·intro b a;obtain⟨u,a2,a3⟩:=hm.vb b a;exact⟨(g b (hm.9.lt b a).2).trans u,a2,a3⟩
 ·intro j p q U hq;exact(hm.pk j p q U hq).on r.4 (λb a hc=>⟨⟨(g b a).trans hc.1,hc.2⟩,l b a hc.2⟩)
 ·intro b a;obtain⟨u,a2,a3⟩:=hm.hL b a;exact⟨ay u r.4,(g b u).trans a2,a3⟩
def HW.cutT(h:HW)(n t:Int):HW:={h with d:=h.d.cut n,torn:=t}
theorem YG(j:WM L W s w)(hk:s.1[k]?=I h)(h0:HOk h k i p)(n t:Int):aq ab 26 #[ah (I ⟨W,0,E⟩),Y G (k:Int),Y G n,Y G t] w λe w'=>e=ac aQ/\Hid (WM L W (s.setH k (h.cutT n t)) w'/\Only w w' (λb=>¬L b)):=by obtain⟨col,S,c,xs,v,ps,hm⟩:=j;obtain⟨x,hx,y⟩:=hm.at_ hk;obtain⟨g,a,u⟩:=hm.7 k x h hx hk;refine(U3 (L:=Gr col S k w) n t hm.ws hx (by rw[a];exact(hm.hx hx hk).1) (λq=>q.2.1 rfl) (λb l=>l.1) hm.16 (hm.up hk h0 hx)).mono ?_;rintro e w' ⟨rfl,r⟩;obtain⟨d,f,m⟩:=r.o;rw[a]at f;rw[g]at d;exact⟨rfl,Aa (hm.step hx hk rfl (ag _) f d m)⟩
theorem HOk.cutT(h0:HOk h k i p){n:Int}(a:n<=9223372036854775807)(t:Int):HOk (h.cutT n t) k i p:=⟨h0.1.cut n a,h0.2,h0.3,h0.4,h0.5⟩
theorem Ps(l:WM L W s w)(hk:s.1[k]?=I h)(h0:HOk h k i p):aq ab 27 #[ah (I ⟨W,0,E⟩),Y G (k:Int)] w λe w'=>e=ac aQ/\Hid (∃a,WM L W (s.setH k ((h.cut (-1)).anew a)) w'/\Only w w' (λb=>¬L b)):=by obtain⟨col,S,c,xs,v,ps,hm⟩:=l;obtain⟨x,hx,z⟩:=hm.at_ hk;obtain⟨j,u,y⟩:=hm.7 k x h hx hk;have m:=hm.up hk h0 hx;refine(MA hm.ws hx hm.16 m.1).mono ?_;rintro e w' ⟨rfl,r⟩;obtain⟨a,A,q,g,t⟩:=r.o;have f:=((h0.cut (n:=-1) O).anew a).2;have f:Ck h.1.3 h.4=((h.cut (-1)).anew a).st:=f;rw[h0.2]at f;rw[f]at g;exact⟨rfl,Aa ⟨a,hm.anew (x':=⟨x.d.cut (-1),a,(h.4.length:Int)⟩) (hw':=(h.cut (-1)).anew a) hx hk (by show x.d.cut (-1)=h.d.cut (-1);rw[j]) rfl (bg _) q g t⟩⟩
theorem Xp(g:WM L W s w)(hk:s.1[k]?=I h)(h0:HOk h k i p):aq ab 40 #[ah (I ⟨W,0,E⟩),Y G (k:Int)] w λe w'=>e=ac (az #[])/\Hid (∃H',WM L W (s.setH k (h.anew H')) w'/\Only w w' (λb=>¬L b)):=by obtain⟨col,S,c,xs,v,ps,hm⟩:=g;obtain⟨x,hx,t⟩:=hm.at_ hk;obtain⟨f,n,q⟩:=hm.7 k x h hx hk;have j:=hm.up hk h0 hx;refine(Ln W S k xs.length c xs x h.4 w hm.ws.1 hm.2 hx rfl hm.3 hm.5 hm.16 j.1).mono ?_;rintro e w' ⟨rfl,r⟩;obtain⟨l,d,m⟩:=r.o;have a:=(h0.anew (w.1.size+1)).2;rw[h0.2]at a;rw[a]at d;exact⟨rfl,Aa ⟨w.1.size+1,hm.anew (x':={x with H:=w.1.size+1,op:=(h.4.length:Int)}) (hw':=h.anew (w.1.size+1)) hx hk f rfl (bg _) l d m⟩⟩
theorem Ve(l:WM L W s w)(hk:s.1[k]?=I h)(n:Int):∃S c:Nat,w.cell? ⟨W,0,E⟩=I (aj (I ⟨S,0,E⟩) s.1.length c)/\s.1.length<=4/\aq ab 58 #[ah (I ⟨S,k*304,E⟩),Y G n] w λe w'=>e=ac (az #[])/\Hid (WM L W (s.setH k (h.cut n)) w'/\Only w w' (λb=>¬L b)):=by obtain⟨col,S,c,xs,v,ps,hm⟩:=l;obtain⟨x,hx,t⟩:=hm.at_ hk;obtain⟨j,q,r⟩:=hm.7 k x h hx hk;refine⟨S,c,by rw[<-hm.6];exact hm.ws.1,by rw[<-hm.6];exact hm.3,(LE (BQ S xs k x) x.d n w (hm.2.disk hx)).mono ?_⟩;rintro e w' ⟨rfl,g,a⟩;rw[j]at g;have m:=(hm.hx hx hk).1;refine⟨rfl,Aa (hm.step (hw':=h.cut n) hx hk rfl (ag _) (m.more (bE a (λb e=>aG (af e).symm)) (λb f=>⟨aw f,ay f.1 a.4⟩)) g (bE a (λb e o=>o.2.1 (af e).symm)))⟩
theorem Qu(b:WM L W s w)(hk:s.1[k]?=I h):aq ab 29 #[ah (I ⟨h.H,0,E⟩)] w λe w'=>e=ac (bq h.1.9)/\w=w':=by obtain⟨a,D,d,-⟩:=b.house hk;exact Wk a h.H D _ w d
theorem Xq(b:WM L W s w)(hk:s.1[k]?=I h):aq ab 67 #[ah (I ⟨h.H,0,E⟩)] w λe w'=>e=ac (Y G (h.4.length:Int))/\w=w':=by obtain⟨a,D,d,-⟩:=b.house hk;exact Fn a h.H D _ w d
theorem Ep(a:WM L W s w):∃S c:Nat,w.cell? ⟨W,0,E⟩=I (aj (I ⟨S,0,E⟩) s.1.length c)/\s.1.length<=4:=by obtain⟨col,S,c,xs,v,ps,hm⟩:=a;exact⟨S,c,by rw[<-hm.6];exact hm.ws.1,by rw[<-hm.6];exact hm.3⟩
end
structure Ko(s:WSt)(q:Pk)(k:Nat)(h:HW)(i p:Nat):Prop where
 dst:q.5=(k:Int)
 hk:s.1[k]?=I h
 ok:HOk h k i p
 n:s.2.length<=100
 lo:0<=s.3/\s.3<=1000000
 m6:q.4.length<=6
 rt:∀x∈q.4,right x=aE
def RB(q:Pk):Nat:=if q.3=aE then 1 else 2
def mu(s:WSt):Nat:=(s.2.map RB).sum
theorem TZ{s:WSt}{q:Pk}{r:List Pk}(k:Nat)(h:HW)(e:s.2=q::r):mu (WSt.comes F (s.rem 0) k h q)<mu s:=by
 have b:(s.rem 0).2=r:=by show s.2.take 0++s.2.drop 1=r;rw[e];rfl
 have a:mu s=RB q+(r.map RB).sum:=by unfold mu;rw[e];simp
 have h1:∀x:Pk,1<=RB x:=λx=>by unfold RB;split<;>omega
 unfold WSt.comes;split
 ·show(((s.rem 0).2).map RB).sum<_;rw[b,a];have:=h1 q;omega
 ·rename_i hq;have c:RB q=2:=by unfold RB;rw[if_neg hq]
  split
  ·unfold WSt.send;split
   ·show((((s.rem 0).2)++[_]).map RB).sum<_;rw[b,a,c,cd,List.sum_append];show _+([RB ⟨q.5,_,aE,[],q.1⟩].sum)<_;simp[RB];omega
   ·show(((s.rem 0).2).map RB).sum<_;rw[b,a];omega
  ·show(((s.rem 0).2).map RB).sum<_;rw[b,a];omega
section
variable{L:Nat->Prop}{W:Nat}{w:ax}
theorem Iw(N:WSt->Prop)(v:∀s q r,N s->s.2=q::r->∃k h i p,Ko s q k h i p/\N (WSt.comes F (s.rem 0) k h q)){s:WSt}(x:WM L W s w)(hs:N s):aq ab 68 #[ah (I ⟨W,0,E⟩)] w λe w'=>e=ac (az #[])/\Hid (∃s',N s'/\s'.2=[]/\WM L W s' w'/\Only w w' (λb=>¬L b)):=by
 have HS:Hid (∃s',N s'/\WM L W s' w/\Only w w (λb=>¬L b)/\mu s'<=mu s):=Aa ⟨s,hs,x,bz _ _,ag _⟩;have A:=Aa v;clear x hs v;generalize mu s=n at HS;go_enter func68,ntmps68;go_wp2;go_loopg[] n (λgk wr=>Hid (∃s',N s'/\WM L W s' wr/\Only w wr (λb=>¬L b)/\mu s'<=gk));case atStart=>exact HS
 case round=>
  obtain⟨s',g1,f,l,B⟩:=hrel.o;have d:=Aa (Qv f);cases hp:s'.2 with
  |nil=>rw[hp]at d;have z:Hid (∃s',N s'/\s'.2=[]/\WM L W s' wr/\Only w wr (λb=>¬L b)):=Aa ⟨s',g1,hp,f,l⟩;clear g1 f l B hp hrel HS;go_wp2_with(go_at_call 18;go_must(refine d.o.mono ?_);rintro e w1 ⟨rfl,rfl⟩;refine ak ?_);refine Aa ?_;go_wp2;go_end0;exact⟨rfl,z⟩
  |cons q r=>
   rw[hp]at d;obtain⟨k,h,i,p,a,u⟩:=A.o s' q r g1 hp;have m:=TZ k h hp;have y:Hid (aq ab 23 #[ah (I ⟨W,0,E⟩),Y G 0] wr λe w'=>e=ac aQ/\Hid (∃c,N c/\WM L W c w'/\Only w w' (λb=>¬L b)/\mu c<gk)):=Aa (by refine(JW (j:=0) f (by rw[hp];rfl) a.1 a.2 a.3 a.n a.5 a.6 a.7).mono ?_;rintro e w' ⟨rfl,r⟩;obtain⟨D,H⟩:=r.o;exact⟨rfl,Aa ⟨_,u,D,l.trans (H.mono (λ_ _ q=>aw q)),O⟩⟩);have g:(0:Int)<((q::r).length:Int):=by simp only[bK];omega
   generalize((q::r).length:Int)=len at d g;clear g1 f l a u m hp hrel HS;go_wp2_with(go_at_call 18;go_must(refine d.o.mono ?_);rintro e w1 ⟨rfl,rfl⟩;refine ak ?_);refine Aa ?_;go_wp2_with(go_at_call 23;go_must(refine y.o.mono ?_);rintro e M ⟨rfl,h2⟩;refine ak ?_);refine Aa ?_;go_wp2;go_roundg (gk-1);case rel=>obtain⟨c,t,a2,a3,a4⟩:=h2.o;exact Aa ⟨c,t,a2,a3,O⟩
   case measure=>obtain⟨c,t,a2,a3,a4⟩:=h2.o;omega
end
def Vq(a:WSt->Prop):Prop:=∀s q r,a s->s.2=q::r->∃k h i p,Ko s q k h i p/\a (WSt.comes F (s.rem 0) k h q)
structure Lx(n:Nat)(b:Nat->WSt->Prop)(a:WSt->Prop)(c A:Nat->WSt->Prop):Prop where
 len:∀j s,b j s->s.1.length=n
 ok:∀j s h,b j s->s.1[j]?=I h->∃i p,HOk h j i p
 on:∀j s h,b j s->s.1[j]?=I h->h.1.9=ai->b (j+1) (s.setH j (h.cut (-1)))
 up:∀j s h H',b j s->s.1[j]?=I h->h.1.9=aE->b (j+1) (s.setH j ((h.cut (-1)).anew H'))
 a0:∀s,b n s->a s
 del0:Vq a
 k0:∀s,a s->s.2=[]->c 0 s
 klen:∀m s,c m s->s.1.length=n/\s.2=[]/\0<=s.3/\s.3<=1000000
 kok:∀m s k h,c m s->s.1[k]?=I h->∃i p,HOk h k i p
 send:∀k far s h,k<n->far<n->c (k*n+far) s->s.1[k]?=I h->A (k*n+far) (s.sendB k h far)
 del:∀m,Vq (A m)
 ka:∀m s,A m s->s.2=[]->c (m+1) s
theorem WT{s:WSt}{k:Nat}{h h':HW}:(s.setH k h).setH k h'=s.setH k h':=by unfold WSt.setH;simp only[List.set_set]
section
variable{L:Nat->Prop}{W:Nat}{w:ax}
theorem Vf{n:Nat}{a9:Nat->WSt->Prop}{A0:WSt->Prop}{b0 A:Nat->WSt->Prop}(hR:Lx n a9 A0 b0 A){s:WSt}(hM:WM L W s w)(hs:a9 0 s):aq ab 32 #[ah (I ⟨W,0,E⟩)] w λe w'=>e=ac (az #[])/\Hid (∃s',b0 (n*n) s'/\WM L W s' w'/\Only w w' (λb=>¬L b)):=by
 obtain⟨S,c,c0,h4⟩:=Ep hM;have l:=hR.1 0 s hs;rw[l]at c0 h4;have HS:Hid (∃s',a9 0 s'/\WM L W s' w/\Only w w (λb=>¬L b)):=Aa ⟨s,hs,hM,bz _ _⟩;have a:=Aa hR;clear hM hs hR l;go_enter func32,ntmps32;go_wp2;go_loopw[10] (λi wr=>∃j:Nat,j<=n/\i=Y G j/\Hid (∃s',a9 j s'/\WM L W s' wr/\Only w wr (λb=>¬L b))) (λi _=>n-(bw i).toNat);case atStart=>exact⟨0,aO _,rfl,HS⟩
 case round=>
  clear HS c0;obtain⟨j,hj,rfl,f⟩:=hrel;obtain⟨d,g1,R,U⟩:=f.o;have l:=a.o.1 j d g1;by_cases a8:j<n
  ·obtain⟨h,hk⟩:∃h,d.1[j]?=I h:=⟨_,ad O⟩;obtain⟨i,p,h0⟩:=a.o.2 j d h g1 hk;obtain⟨S,c,c0,-,hC⟩:=Ve R hk (-1);rw[l]at c0;have t:(d.setH j (h.cut (-1))).1[j]?=I (h.cut (-1)):=aR O;have y:HOk (h.cut (-1)) j i p:=h0.cut O;have HC:Hid (aq ab 58 #[ah (I ⟨S,j*304,E⟩),Y G (-1)] wr λe w'=>e=ac (az #[])/\Hid (WM L W (d.setH j (h.cut (-1))) w'/\Only w w' (λb=>¬L b))):=Aa (hC.mono (λe w' r=>⟨r.1,Aa ⟨r.2.o.1,U.trans (r.2.o.2.mono (λ_ _ q=>aw q))⟩⟩));have HL:Hid (∀w1,(WM L W (d.setH j (h.cut (-1))) w1/\Only w w1 (λb=>¬L b))->aq ab 34 #[ah (I ⟨W,0,E⟩),Y G (j:Int)] w1 λe w'=>e=ac (ah (I ⟨h.H,0,E⟩))/\Hid (WM L W (d.setH j (h.cut (-1))) w'/\Only w w' (λb=>¬L b))):=Aa (λw1 r=>(Fx r.1 t y).mono (λe w' q=>⟨q.1,Aa ⟨r.1.below q.2,r.2.trans (aF q.2)⟩⟩));have HD:Hid (∀w1,(WM L W (d.setH j (h.cut (-1))) w1/\Only w w1 (λb=>¬L b))->aq ab 29 #[ah (I ⟨h.H,0,E⟩)] w1 λe w'=>e=ac (bq h.1.9)/\w1=w'):=Aa (λw1 r=>Qu (h:=h.cut (-1)) r.1 t);have HO:Hid (∀w1,(WM L W (d.setH j (h.cut (-1))) w1/\Only w w1 (λb=>¬L b))->aq ab 40 #[ah (I ⟨W,0,E⟩),Y G (j:Int)] w1 λe w'=>e=ac (az #[])/\Hid (∃u,WM L W (d.setH j ((h.cut (-1)).anew u)) w'/\Only w w' (λb=>¬L b))):=Aa (λw1 r=>(Xp r.1 t y).mono (λe w' q=>⟨q.1,by obtain⟨u,V,q2⟩:=q.2.o;rw[WT]at V;exact Aa ⟨u,V,r.2.trans (q2.mono (λ_ _ q=>aw q))⟩⟩));have B:=Aa (λhd=>a.o.3 j d h g1 hk hd);have D:=Aa (λu hd=>a.o.4 j d h u g1 hk hd);clear g1 R U hk t h0 y hC f;generalize hdn:h.1.9=dn at HD B D;clear hdn;cases dn with
   |false=>
    go_wp2_with(go_at_call 58;go_must(refine HC.o.mono ?_);rintro e w1 ⟨rfl,h1⟩;refine ak ?_);refine Aa ?_;have x:=Aa (HL.o w1 h1.o);go_wp2_with(go_at_call 34;go_must(refine x.o.mono ?_);rintro e P ⟨rfl,h2⟩;refine ak ?_);refine Aa ?_;have v:=Aa (HD.o P h2.o);go_wp2_with(go_at_call 29;go_must(refine v.o.mono ?_);rintro e w3 ⟨rfl,rfl⟩;refine ak ?_);refine Aa ?_;go_wp2;go_roundw;case rel=>exact⟨j+1,O,by go_num,Aa ⟨_,B.o (by trivial),h2.o.1,h2.o.2⟩⟩
    case measure=>simp[bw];omega
   |true=>
    go_wp2_with(go_at_call 58;go_must(refine HC.o.mono ?_);rintro e w1 ⟨rfl,h1⟩;refine ak ?_);refine Aa ?_;have x:=Aa (HL.o w1 h1.o);go_wp2_with(go_at_call 34;go_must(refine x.o.mono ?_);rintro e P ⟨rfl,h2⟩;refine ak ?_);refine Aa ?_;have v:=Aa (HD.o P h2.o);go_wp2_with(go_at_call 29;go_must(refine v.o.mono ?_);rintro e w3 ⟨rfl,rfl⟩;refine ak ?_);refine Aa ?_;have a0:=Aa (HO.o P h2.o);go_wp2_with(go_at_call 40;go_must(refine a0.o.mono ?_);rintro e w4 ⟨rfl,a6⟩;refine ak ?_);refine Aa ?_;go_wp2;go_roundw;case rel=>obtain⟨u,V,q2⟩:=a6.o;exact⟨j+1,O,by go_num,Aa ⟨_,D.o u (by trivial),V,q2⟩⟩
    case measure=>simp[bw];omega
  ·obtain rfl:j=n:=O;have Q:Hid (aq ab 68 #[ah (I ⟨W,0,E⟩)] wr λe w'=>e=ac (az #[])/\Hid (∃s',b0 0 s'/\WM L W s' w'/\Only w w' (λb=>¬L b))):=Aa ((Iw A0 a.o.6 R (a.o.5 d g1)).mono (λe w' r=>⟨r.1,by obtain⟨s',g,a2,a3,a4⟩:=r.2.o;exact Aa ⟨s',a.o.7 s' g a2,a3,U.trans (a4.mono (λ_ _ q=>aw q))⟩⟩));clear g1 R U f hj l;go_wp2_with(go_at_call 68;go_must(refine Q.o.mono ?_);rintro e w1 ⟨rfl,h1⟩;refine ak ?_);refine Aa ?_;obtain⟨S,c,c0,a7⟩:∃S c,w1.cell? ⟨W,0,E⟩=I (aj (I ⟨S,0,E⟩) j c)/\True:=by obtain⟨s',g,a2,a3⟩:=h1.o;obtain⟨S,c,c0,-⟩:=Ep a2;rw[(a.o.8 0 s' g).1]at c0;exact⟨S,c,c0,trivial⟩
   clear a7 Q;go_wp2;go_loopw[36] (λi wr=>∃k:Nat,k<=j/\i=Y G k/\Hid (∃s',b0 (k*j) s'/\WM L W s' wr/\Only w wr (λb=>¬L b))) (λi _=>j-(bw i).toNat);case atStart=>exact⟨0,aO _,rfl,by rw[Nat.zero_mul];exact h1⟩
   case round=>
    clear c0 h1;obtain⟨k,hk,rfl,f⟩:=hrel;by_cases M:k<j
    ·obtain⟨S,c,c0⟩:∃S c,wr.cell? ⟨W,0,E⟩=I (aj (I ⟨S,0,E⟩) j c):=by obtain⟨s',g,a2,a3⟩:=f.o;obtain⟨S,c,c0,-⟩:=Ep a2;rw[(a.o.8 _ s' g).1]at c0;exact⟨S,c,c0⟩
     go_wp2;go_loopw[44] (λi wr=>∃m:Nat,m<=j/\i=Y G m/\Hid (∃s',b0 (k*j+m) s'/\WM L W s' wr/\Only w wr (λb=>¬L b))) (λi _=>j-(bw i).toNat);case atStart=>exact⟨0,aO _,rfl,by rw[Nat.add_zero];exact f⟩
     case round=>
      clear c0 f;obtain⟨m,hm,rfl,f⟩:=hrel;by_cases N:m<j
      ·have a5:Hid (aq ab 22 #[ah (I ⟨W,0,E⟩),Y G (k:Int),Y G (m:Int)] wr λe w'=>(∃z,e=ac (AY z))/\Hid (∃s',A (k*j+m) s'/\WM L W s' w'/\Only w w' (λb=>¬L b))):=Aa (by obtain⟨s',g,a2,a3⟩:=f.o;obtain⟨l1,l2,l3,l4⟩:=a.o.8 _ s' g;obtain⟨h,hh⟩:∃h,s'.1[k]?=I h:=⟨_,ad O⟩;obtain⟨i,p,h0⟩:=a.o.9 _ s' k h g hh;refine(Qs a2 hh h0 (far:=m) O (by rw[l2];simp) ⟨l3,l4⟩).mono ?_;rintro e w' ⟨rfl,r⟩;exact⟨⟨_,rfl⟩,Aa ⟨_,a.o.10 k m s' h M N g hh,r.o.1,a3.trans (r.o.2.mono (λ_ _ q=>aw q))⟩⟩);have Q:Hid (∀w1,(∃s',A (k*j+m) s'/\WM L W s' w1/\Only w w1 (λb=>¬L b))->aq ab 68 #[ah (I ⟨W,0,E⟩)] w1 λe w'=>e=ac (az #[])/\Hid (∃s',b0 (k*j+m+1) s'/\WM L W s' w'/\Only w w' (λb=>¬L b))):=Aa (λw1 ⟨s',g,a2,a3⟩=>(Iw (A (k*j+m)) (a.o.11 _) a2 g).mono (λe w' r=>⟨r.1,by obtain⟨s2,b1,b2,b3,b4⟩:=r.2.o;exact Aa ⟨s2,a.o.ka _ s2 b1 b2,b3,a3.trans (b4.mono (λ_ _ q=>aw q))⟩⟩));clear f;go_wp2_with(go_at_call 22;go_must(refine a5.o.mono ?_);rintro e w1 ⟨⟨z,rfl⟩,h1⟩;refine ak ?_);refine Aa ?_;have X:=Aa (Q.o w1 h1.o);go_wp2_with(go_at_call 68;go_must(refine X.o.mono ?_);rintro e P ⟨rfl,h2⟩;refine ak ?_);refine Aa ?_;go_wp2;go_roundw;case rel=>exact⟨m+1,O,by go_num,by rw[<-cu];exact h2⟩
       case measure=>simp[bw];omega
      ·obtain rfl:m=j:=O;go_wp2;go_roundw;case rel=>exact⟨k+1,O,by go_num,by rw[dc];exact f⟩
       case measure=>simp[bw];omega
    ·obtain rfl:k=j:=O;go_wp2;go_end0;exact⟨rfl,f⟩
end
theorem Yh:(ab.info? 43).map (λi=>(i.8,i.3,i.4))=I (I (ah E),1,8):=K
def HW.ptr(h:HW):bj:=ah (I ⟨h.H,0,E⟩)
section
variable{L:Nat->Prop}{W:Nat}{w:ax}{s:WSt}
def ES(s:WSt):Prop:=∀k h,s.1[k]?=I h->∃i p,HOk h k i p
theorem GH(V:WM L W s w)(u:ES s):aq ab 60 #[ah (I ⟨W,0,E⟩)] w λe w'=>∃v',e=ac v'/\Hid (w'.ownsRow w.1.size 43 1 v' s.1.length (s.1.map HW.ptr)/\aA w.1.size w w'):=by
 obtain⟨S,c,c0,h4⟩:=Ep V;obtain⟨n,A⟩:∃n,Hid (s.1.length=n):=⟨_,rfl⟩;rw[A.o]at c0 h4;have HM:=Aa V;have m:=Aa u;obtain⟨i0,hi,x,y,z⟩:=Av Yh;have HI:=Aa hi;have N:=Aa x;have P:=Aa y;have Q:=Aa z;clear V u hi x y z;rw[A.o];go_enter func60,ntmps60;go_wp2;go_loopw[3,10] (λl v W=>∃j:Nat,j<=n/\v=Y G j/\Hid (W.ownsRow w.1.size 43 1 l j ((s.1.take j).map HW.ptr))/\aA w.1.size w W) (λ_ v _=>n-(bw v).toNat);case atStart=>exact⟨0,aO _,rfl,Aa (ba _ _ _ _),aB _ _⟩
 case round=>
  obtain⟨j,hj,rfl,f,B⟩:=hrel;by_cases a0:j<n
  ·obtain⟨h,hk⟩:∃h,s.1[j]?=I h:=⟨_,ad (by rw[A.o];omega)⟩;obtain⟨i,p,h0⟩:=m.o j h hk;have X:=Aa (Fx (HM.o.below B) hk h0);have b:Hid ((s.1.take (j+1)).map HW.ptr=(s.1.take j).map HW.ptr++[ah (I ⟨h.H,0,E⟩)]):=Aa (by rw[aW,hk,bQ,cd];rfl);obtain⟨xs,R⟩:∃q,Hid ((s.1.take j).map HW.ptr=q):=⟨_,rfl⟩;rw[R.o]at f b;generalize h.H=H at X b;clear hk h0;go_wp2_with(go_at_call 34;go_must(refine X.o.mono ?_);rintro e w1 ⟨rfl,h1⟩;refine ak ?_);refine Aa ?_;have r:aA w.1.size w w1:=Ad B B.4 h1;have d:=r.alloc r.4 (bb #[ah (I ⟨H,0,E⟩)] 43);have g:Hid ((w1.alloc (bb #[ah (I ⟨H,0,E⟩)] 43)).ownsRow w.1.size 43 1 u3 j xs):=Aa ((Au f.o (λk hk=>h1.5 k (f.o.lt k hk).2)).alloc _);have D:=Aa (DX w1 (ah (I ⟨H,0,E⟩)) 43 (w1.alloc (bb #[ah (I ⟨H,0,E⟩)] 43)) oS);clear f h1;go_wp2_with(at_builtin;go_must(refine cE _ rfl _ _ 121 rfl w.1.size 43 i0 _ 1 8 underlying121 HI.o N.o P.o Q.o rfl oD u3 j _ rfl g.o ⟨w1.1.size,0,E⟩ 1 1 [ah (I ⟨H,0,E⟩)] rfl rfl D.o (by simp[Value.oneCell']) (by unfold cg;omega) O d.4 ?_));intro v5 w5 a t _;have U:aA w.1.size w w5:=AW d g.o t d.4 (ag _);have M:=Aa a;clear a t;go_wp2;go_roundw;case rel=>exact⟨j+1,O,by go_num,Aa (by rw[b.o];exact M.o),U⟩
   case measure=>simp[bw];omega
  ·obtain rfl:j=n:=O;have HT:Hid (s.1.take j=s.1):=Aa (aK (by rw[A.o];exact ag _));rw[HT.o]at f;go_wp2;go_ret;exact⟨_,rfl,Aa ⟨f.o,B⟩⟩
def MC(l:List HW):Nat:=(l.map λh=>h.4.length).sum
theorem N8(l:List HW)(h:HW):MC (l++[h])=MC l+h.4.length:=by simp[MC]
theorem Vm{l:List HW}(a:∀h∈l,h.4.length<=300)(j:Nat):MC (l.take j)<=300*j:=by
 induction j with
 |zero=>simp[MC]
 |succ j ih=>
  rw[aW];cases e:l[j]? with
  |none=>simp;omega
  |some h=>rw[bQ,N8];have:=a h (bo e);omega
theorem Mj{w:ax}{B n:Nat}{a:Option Addr}{c:Nat}{l:List HW}(h:w.ownsRow B 43 1 (aj a n c) n (l.map HW.ptr)){j:Nat}{x:HW}(hx:l[j]?=I x)(hj:j<n):∃g,a=I ⟨g,0,E⟩/\g<w.1.size/\w.cell? ⟨g,j,E⟩=I (ah (I ⟨x.H,0,E⟩)):=by
 rcases h.2 with⟨h0,h1⟩|⟨g,b,d,h0,e,hg,-⟩
 ·omega
 ·cases h0;refine⟨g,rfl,(aX.1 hg).1,(h.cellAt j O).trans ?_⟩;rw[cH,hx];rfl
theorem JX(c:WM L W s w)(b:ES s):aq ab 31 #[ah (I ⟨W,0,E⟩)] w λe w'=>e=ac (Y G (MC s.1:Int))/\aA w.1.size w w':=by
 have D:=(Ep c).choose_spec.choose_spec.2;have u:=Aa (GH c b);obtain⟨n,f⟩:∃n,Hid (s.1.length=n):=⟨_,rfl⟩;rw[f.o]at u D;have z:=Aa c;have x:Hid (∀j,MC (s.1.take j)<=300*j):=Aa (Vm (λh N=>by obtain⟨k,hk,rfl⟩:=aN.1 N;obtain⟨i,p,h0⟩:=b k _ (ad hk);exact h0.1.1.5.1));clear c b;go_enter func31,ntmps31;go_wp2_with(go_at_call 60;go_must(refine u.o.mono ?_);rintro e w1 ⟨P,rfl,h1⟩;refine ak ?_);refine Aa ?_;obtain⟨B,y,rfl⟩:=Ao h1.o.1;go_wp2;go_loopw[3,9] (λl v wr=>∃j:Nat,j<=n/\v=Y G j/\l=Y G (MC (s.1.take j):Int)/\wr=w1) (λ_ v _=>n-(bw v).toNat);case atStart=>exact⟨0,aO _,rfl,rfl,rfl⟩
 case round=>
  obtain⟨j,hj,rfl,rfl,rfl⟩:=hrel;by_cases t:j<n
  ·obtain⟨h,hk⟩:∃h,s.1[j]?=I h:=⟨_,ad (by rw[f.o];omega)⟩;obtain⟨g,rfl,M,hc⟩:=Mj h1.o.1 hk t;have d:=Aa (Xq (z.o.below h1.o.2) hk);have a:Hid ((MC (s.1.take (j+1)):Int)=(MC (s.1.take j):Int)+(h.4.length:Int)):=Aa (by rw[aW,hk,bQ,N8];omega);have m:=x.o j;have q:=x.o (j+1);generalize h.H=H at d hc;generalize h.4.length=cl at d a;have r:((MC (s.1.take j):Int)+(cl:Int))<=10000:=by have:=a.o;omega
   generalize hw1:MC (s.1.take j)=B at m r a;clear hk q;go_wp2_with(go_at_call 67;go_must(refine d.o.mono ?_);rintro e w3 ⟨rfl,rfl⟩;refine ak ?_);refine Aa ?_;go_wp2;go_roundw;case rel=>exact⟨j+1,O,by go_num,by rw[a.o],by trivial⟩
   case measure=>simp[bw];omega
  ·obtain rfl:j=n:=O;have A:Hid (s.1.take j=s.1):=Aa (aK (by rw[f.o];exact ag _));rw[A.o];go_wp2;go_ret;exact⟨rfl,h1.o.2⟩
end
def Sy(n:Nat)(P:Nat->WSt->Prop)(a:WSt->Prop):Prop:=∀m s,P m s->ES s/\∃J A0 K A,Lx n J A0 K A/\J 0 s/\∀s',K (n*n) s'->ES s'/\P (m+1) s'/\(MC s'.1=MC s.1->a s')
section
variable{L:Nat->Prop}{W:Nat}{w:ax}{s:WSt}
theorem Qt{n:Nat}{P:Nat->WSt->Prop}{a7:WSt->Prop}(N:Sy n P a7)(M:WM L W s w)(hs:P 0 s)(r:Nat)(hr:r<=1000000):aq ab 10 #[ah (I ⟨W,0,E⟩),Y G (r:Int)] w λe w'=>e=ac (az #[])/\Hid (∃s',(P r s'\/(a7 s'/\∃m,P m s'))/\WM L W s' w'/\Only w w' (λb=>¬L b)):=by
 have HS:Hid (∃s',P 0 s'/\WM L W s' w/\Only w w (λb=>¬L b)):=Aa ⟨s,hs,M,bz _ _⟩;have S:=Aa N;clear M hs N;go_enter func10,ntmps10;go_wp2;go_loopw[6] (λv wr=>∃j:Nat,j<=r/\v=Y G j/\Hid (∃s',P j s'/\WM L W s' wr/\Only w wr (λb=>¬L b))) (λv _=>r-(bw v).toNat);case atStart=>exact⟨0,aO _,rfl,HS⟩
 case round=>
  clear HS;obtain⟨j,hj,rfl,B⟩:=hrel;by_cases a6:j<r
  ·obtain⟨l,g1,i,t⟩:=B.o;obtain⟨k,a8,A0,a9,A,Q,D,H⟩:=S.o j l g1;have h:=Aa (JX i k);have a:Hid (∀w1,aA wr.1.size wr w1->aq ab 32 #[ah (I ⟨W,0,E⟩)] w1 λe w'=>e=ac (az #[])/\Hid (∃s',(P (j+1) s'/\(MC s'.1=MC l.1->a7 s')/\ES s')/\WM L W s' w'/\Only w w' (λb=>¬L b))):=Aa (λw1 d=>(Vf Q (i.below d) D).mono (λe w' q=>⟨q.1,by obtain⟨s',g,a2,a3⟩:=q.2.o;obtain⟨U,V,X⟩:=H s' g;exact Aa ⟨s',⟨V,X,U⟩,a2,(t.trans (aF d)).trans (a3.mono (λ_ _ q=>aw q))⟩⟩));clear g1 i t k Q D H B;generalize MC l.1=R at h a;go_wp2_with(go_at_call 31;go_must(refine h.o.mono ?_);rintro e w1 ⟨rfl,h1⟩;refine ak ?_);refine Aa ?_;have f:=Aa (a.o w1 h1);go_wp2_with(go_at_call 32;go_must(refine f.o.mono ?_);rintro e x ⟨rfl,h2⟩;refine ak ?_);refine Aa ?_;obtain⟨u,⟨g,a2,a3⟩,a4,a5⟩:=h2.o;have c:=Aa (JX a4 a3);by_cases p:MC u.1=R
   ·have y:Hid (∀w3,aA x.1.size x w3->∃s',(P r s'\/(a7 s'/\∃m,P m s'))/\WM L W s' w3/\Only w w3 (λb=>¬L b)):=Aa (λw3 d=>⟨u,aG ⟨a2 p,_,g⟩,a4.below d,a5.trans (aF d)⟩);rw[p]at c;clear g a2 a3 a4 a5 h2 h1 f a;go_wp2_with(go_at_call 31;go_must(refine c.o.mono ?_);rintro e w3 ⟨rfl,z⟩;refine ak ?_);refine Aa ?_;go_wp2;go_returns;exact⟨rfl,Aa (y.o w3 z)⟩
   ·have y:Hid (∀w3,aA x.1.size x w3->∃s',P (j+1) s'/\WM L W s' w3/\Only w w3 (λb=>¬L b)):=Aa (λw3 d=>⟨u,g,a4.below d,a5.trans (aF d)⟩);generalize MC u.1=n2 at c p;have a0:((n2:Int)==(R:Int))=ai:=by rw[beq_eq_false_iff_ne];omega
    clear g a2 a3 a4 a5 h2 h1 f a p;go_wp2_with(go_at_call 31;go_must(refine c.o.mono ?_);rintro e w3 ⟨rfl,z⟩;refine ak ?_);refine Aa ?_;go_wp2;go_roundw;case rel=>exact⟨j+1,O,by go_num,Aa (y.o w3 z)⟩
    case measure=>simp[bw];omega
  ·obtain rfl:j=r:=O;go_wp2;go_end0;obtain⟨l,g1,i,t⟩:=B.o;exact⟨rfl,Aa ⟨l,aw g1,i,t⟩⟩
end
theorem UA{pre:List bj}{d:Dk}{hv ov:bj}{rest:List bj}{o:Nat}(b:pre.length=o)(a:d.1.length=300):(pre++(DL d++(hv::ov::rest))).toArray[o+302]?=I hv/\(pre++(DL d++(hv::ov::rest))).toArray[o+303]?=I ov/\∀v,((pre++(DL d++(hv::ov::rest))).toArray.setIfInBounds (o+302) v=(pre++(DL d++(v::ov::rest))).toArray)/\((pre++(DL d++(hv::ov::rest))).toArray.setIfInBounds (o+303) v=(pre++(DL d++(hv::v::rest))).toArray):=by
 have h2:=DT a;refine⟨?_,?_,λv=>⟨?_,?_⟩⟩
 ·rw[ch,av O,av O,show o+302-pre.length-(DL d).length=0 by omega];rfl
 ·rw[ch,av O,av O,show o+303-pre.length-(DL d).length=1 by omega];rfl
 ·rw[bS,bB _ _ O,bB _ _ O,show o+302-pre.length-(DL d).length=0 by omega];rfl
 ·rw[bS,bB _ _ O,bB _ _ O,show o+303-pre.length-(DL d).length=1 by omega];rfl
theorem Sj(W S k n c:Nat)(pre rest:List bj)(d:Dk)(hv ov:bj)(chs:List Ch)(w:ax)(R:w.cell? ⟨W,0,E⟩=I (aj (I ⟨S,0,E⟩) n c))(j:DB w ⟨S,k*304,pre,hv::ov::rest⟩ d)(hk:k<n)(Q:n<=4)(M:W≠S)(hL:Lay w)(hg:Log d chs):aq ab 40 #[ah (I ⟨W,0,E⟩),Y G (k:Int)] w λe w'=>e=ac (az #[])/\Hid (Blk w' S (pre++(DL d++(ah (I ⟨w.1.size+1,0,E⟩)::Y G (chs.length:Int)::rest))).toArray 120/\Hx (λb=>b<w.1.size/\b≠S) (w.1.size+1) ⟨S,k*304,pre,hv::ov::rest⟩ (Ck k chs) w'/\w.grownBy w' (I S)):=by
 have A:Hid (aq ab 69 #[Y G (k:Int),ah (I ⟨S,k*304,E⟩)] w λe w'=>e=ac (az #[ah (I ⟨w.1.size+1,0,E⟩),aQ])/\Hid (Hx (λb=>b<w.1.size/\b≠S) (w.1.size+1) ⟨S,k*304,pre,hv::ov::rest⟩ (Ck k chs) w'/\aA w.1.size w w')):=Aa ((LS (λb=>b<w.1.size/\b≠S) (k:Int) ⟨S,k*304,pre,hv::ov::rest⟩ d chs w ⟨O,O⟩ j hL hg (λb f=>f.elim (λy=>y.1) (λe=>by rw[e];exact j.lt))).mono (λe w' q=>⟨q.1,Aa ⟨q.2.1,q.2.2⟩⟩));obtain⟨s,t,z⟩:=UA (hv:=hv) (ov:=ov) (rest:=rest) j.2 j.3;have s:(pre++(DL d++(hv::ov::rest))).toArray[k*304+302]?=I hv:=s;have t:(pre++(DL d++(hv::ov::rest))).toArray[k*304+303]?=I ov:=t;have h:Hid (∀w1,aA w.1.size w w1->Blk w1 S (pre++(DL d++(hv::ov::rest))).toArray 120/\(w1.cell? ⟨S,k*304+302,E⟩=I hv/\w1.cell? ⟨S,k*304+303,E⟩=I ov)/\w1.frozen? ⟨S,k*304+302,E⟩=ai/\w1.frozen? ⟨S,k*304+303,E⟩=ai):=Aa (λw1 g=>by have f:Blk w1 S (pre++(DL d++(hv::ov::rest))).toArray 120:=Blk.after (cs:=(pre++(DL d++(hv::ov::rest))).toArray) j.1 g;exact⟨f,⟨(f.cell _).trans s,(f.cell _).trans t⟩,f.free _,f.free _⟩);have l:Hid (∀v u,((pre++(DL d++(hv::ov::rest))).toArray.setIfInBounds (k*304+302) v).setIfInBounds (k*304+303) u=(pre++(DL d++(v::u::rest))).toArray):=Aa (λv u=>by have H:(pre++(DL d++(hv::ov::rest))).toArray.setIfInBounds (k*304+302) v=_:=(z v).1;rw[H];exact((UA (hv:=v) (ov:=ov) (rest:=rest) j.2 j.3).2.2 u).2);clear hL hg j s t z;go_enter func40,ntmps40;go_wp2_with(go_at_call 69;go_must(refine A.o.mono ?_);rintro e w1 ⟨rfl,h1⟩;refine ak ?_);refine Aa ?_;obtain⟨x,g⟩:=h1.o;obtain⟨p,⟨c2,c3⟩,f2,P⟩:=h.o w1 g;have m:=g.4;have a:∀(V:ax) (i:Nat) (v:bj),Hx (λb=>b<w.1.size/\b≠S) (w.1.size+1) ⟨S,k*304,pre,hv::ov::rest⟩ (Ck k chs) V->w1.1.size<=V.1.size->Hx (λb=>b<w.1.size/\b≠S) (w.1.size+1) ⟨S,k*304,pre,hv::ov::rest⟩ (Ck k chs) (V.setCell ⟨S,i,E⟩ v):=λV i v L N=>
  L.more ((Only.set V S i v).mono (λb _ e=>aG e)) (λb f=>⟨aw f,ay (ay f.1 m) (bu N (Only.set V S i v).4)⟩);have D:=Aa (Fn _ _ _ _ _ (a w1 (k*304+302) (ah (I ⟨w.1.size+1,0,E⟩)) x (ag _)));have r:w.grownBy w1 (I S):=⟨g.1,g.2,g.3,g.4,λb f _=>g.5 b f⟩;have B:Hid (Blk ((w1.setCell ⟨S,k*304+302,E⟩ (ah (I ⟨w.1.size+1,0,E⟩))).setCell ⟨S,k*304+303,E⟩ (Y G (chs.length:Int))) S (pre++(DL d++(ah (I ⟨w.1.size+1,0,E⟩)::Y G (chs.length:Int)::rest))).toArray 120/\Hx (λb=>b<w.1.size/\b≠S) (w.1.size+1) ⟨S,k*304,pre,hv::ov::rest⟩ (Ck k chs) ((w1.setCell ⟨S,k*304+302,E⟩ (ah (I ⟨w.1.size+1,0,E⟩))).setCell ⟨S,k*304+303,E⟩ (Y G (chs.length:Int)))/\w.grownBy ((w1.setCell ⟨S,k*304+302,E⟩ (ah (I ⟨w.1.size+1,0,E⟩))).setCell ⟨S,k*304+303,E⟩ (Y G (chs.length:Int))) (I S)):=by have q:=(p.set (k*304+302) (ah (I ⟨w.1.size+1,0,E⟩))).set (k*304+303) (Y G (chs.length:Int));rw[l.o]at q;exact Aa ⟨q,a _ _ _ (a w1 _ _ x (ag _)) (Only.set w1 S _ _).4,Am _ (Am _ r)⟩
 clear x g p m a r h1 l h;go_wp2_with(go_at_call 67;go_must(refine D.o.mono ?_);rintro e U ⟨rfl,rfl⟩;refine ak ?_);refine Aa ?_;go_wp2;go_end0;exact⟨rfl,B⟩
def DK:List bj:=DL Oe++[ah E,Y G 0]
theorem RU:(ab.info? 120).map (λi=>(i.8.map (λz=>z.cells.1),i.3,i.4))=I (I DK,304,4832):=K
theorem Ri(z:Array bj)(n:Nat):(cD z (n*z.size)).1=(aV n z.1).flatten:=by
 have e:∀k,(cD z k).1=(di k).map (λi=>z[i%z.size]!):=λk=>by simp[cD]
 rw[e];induction n with
 |zero=>simp
 |succ n ih=>
  rw[dc,List.range_add,cd,ih,List.replicate_succ',List.flatten_append,da];congr 1;rw[cG,cL,bG];apply List.ext_getElem
  ·simp
  ·intro i h1 h2;have a:i<z.size:=by simpa using h1
   have b:(n*z.size+i)%z.size=i:=by rw[Nat.mul_comm,Nat.mul_add_mod,Nat.mod_eq_of_lt a]
   simp[b,a]
theorem LI:Oe.1.length=300:=List.length_replicate
theorem Sq:DK.length=304:=by rw[DK,ae,DT LI];rfl
theorem Xv{z:Array bj}(a:z.1=DK)(n:Nat):(cD z (n*304)).1=(aV n DK).flatten:=by
 have h:=Ri z n;have b:z.size=304:=by rw[<-Array.length_toList,a,Sq]
 rw[b,a]at h;exact h
def Dr(k:Nat)(H:Nat):HW:=⟨Nt (k:Int),[],Oe,[],0,-1,H⟩
theorem Mf{k:Nat}(hk:k<4)(H:Nat):HOk (Dr k H) k 0 0:=⟨Inv.start ⟨O,O⟩,rfl,aO _,O,O⟩
theorem Ro{k:Nat}(hk:k<4)(H:Nat):Ck (k:Int) []=(Dr k H).st:=by
 have h:=((Mf hk H).anew H).2;have h:Ck (k:Int) []=((Dr k H).anew H).st:=h;rw[h];have e:(Dr k H).anew H=Dr k H:=by show({rs:=PD (Nt (k:Int)),ns:=[],d:=Oe,chs:=[],N:=BA [],torn:=-1,H:=H}:HW)=Dr k H;rfl
 rw[e]
theorem ZK{k:Nat}(hk:k<4):Log Oe []:=(Mf hk 0).1.1.log (by show BA []<=900;decide)
structure NewJ(w1:ax)(W S n j:Nat)(c0:Nat->Nat)(w:ax)(col:Nat->Nat)(xs:List AJ)(Hs:List Nat):Prop where
 lx:xs.length=j
 lh:Hs.length=j
 blk:Blk w S (AI xs++(aV (n-j) DK).flatten).toArray 120
 W0:Blk w W #[aj (I ⟨S,0,E⟩) n n,aj E 0 0,Y G 0] 96
 site:∀(k:Nat) (x:AJ) (H:Nat),xs[k]?=I x->Hs[k]?=I H->x=⟨Oe,H,0⟩
 hx:∀(k:Nat) (H:Nat),Hs[k]?=I H->Hx (Gr col S k w) H ⟨S,k*304,[],[]⟩ (Dr k H).st w
 cols:∀b,b<w1.1.size->col b=c0 b
 only:w1.grownBy w (I S)
theorem ZI{xs:List AJ}{Hs:List Nat}(h:xs.length=Hs.length)(hs:∀(k:Nat) (x:AJ) (H:Nat),xs[k]?=I x->Hs[k]?=I H->x=⟨Oe,H,0⟩):∀x∈xs,x.d=Oe:=λx hx=>by obtain⟨k,hk,rfl⟩:=aN.1 hx;rw[hs k _ _ (ad hk) (ad O)]
section
variable{w1:ax}{W S n j:Nat}{c0:Nat->Nat}{w:ax}{col:Nat->Nat}{xs:List AJ}{Hs:List Nat}
theorem NewJ.len(h:NewJ w1 W S n j c0 w col xs Hs):∀x∈xs,x.d.1.length=300:=λx hx=>by rw[ZI (h.1.trans h.2.symm) h.5 x hx];exact LI
theorem NewJ.disk(h:NewJ w1 W S n j c0 w col xs Hs)(hj:j<n):DB w ⟨S,j*304,AI xs,ah E::Y G 0::(aV (n-(j+1)) DK).flatten⟩ Oe:=by
 refine⟨?_,?_,LI⟩
 ·have e:n-j=n-(j+1)+1:=O;have a:=h.3;rw[e,List.replicate_succ,cG,DK,al]at a;exact a
 ·show(AI xs).length=j*304;rw[DJ h.len,h.1]
theorem NewJ.step(h:NewJ w1 W S n j c0 w col xs Hs)(hj:j<n)(l:W≠S)(q:W<w1.1.size){w':ax}{d:Nat}(o:j<4)(r:Blk w' S (AI xs++(DL Oe++(ah (I ⟨d,0,E⟩)::Y G 0::(aV (n-(j+1)) DK).flatten))).toArray 120)(s:Hx (λb=>b<w.1.size/\b≠S) d ⟨S,j*304,AI xs,ah E::Y G 0::(aV (n-(j+1)) DK).flatten⟩ (Ck j []) w')(c:w.grownBy w' (I S)):NewJ w1 W S n (j+1) c0 w' (DA col j w) (xs++[⟨Oe,d,0⟩]) (Hs++[d]):=by
 have m:W<w.1.size:=ay q h.8.4;refine⟨by rw[ae,h.1];rfl,by rw[ae,h.2];rfl,?_,(c.5 W m (λe=>l (af e))).trans h.4,λk x H hx hH=>?_,λk H hH=>?_,λb a=>?_,?_⟩
 ·rw[DI];have e:AI [(⟨Oe,d,0⟩:AJ)]=DL Oe++[ah (I ⟨d,0,E⟩),Y G 0]:=by simp[AI,FL,Z9]
  rw[e,al,al];exact r
 ·by_cases e:k<j
  ·rw[aC (by rw[h.1];exact e)]at hx;rw[aC (by rw[h.2];exact e)]at hH;exact h.5 k x H hx hH
  ·have hk:k=j:=by have:=(aa.1 hx).1;rw[ae,h.1,aZ]at this;omega
   subst hk;rw[av (by rw[h.1];exact ag _),h.1,bJ]at hx;rw[av (by rw[h.2];exact ag _),h.2,bJ]at hH;obtain rfl:=af hx;obtain rfl:=af hH;rfl
 ·by_cases e:k<j
  ·rw[aC (by rw[h.2];exact e)]at hH;refine(h.6 k H hH).more (bE c (λb e=>aG (af e).symm)) (λb a=>?_);obtain⟨g,i,f⟩:=a;refine⟨?_,g⟩;by_cases a:b<w.1.size
   ·unfold DA at f;rw[if_pos a]at f;exact aw ⟨a,i,f⟩
   ·exact aG O
  ·have hk:k=j:=by have:=(aa.1 hH).1;rw[ae,h.2,aZ]at this;omega
   subst hk;rw[av (by rw[h.2];exact ag _),h.2,bJ]at hH;obtain rfl:=af hH;rw[<-Ro o];refine(s.more (w':=w') (bz _ _) (λb a=>?_)).place rfl rfl;obtain⟨g,i,f⟩:=a;refine⟨aw ?_,g⟩;by_cases a:b<w.1.size
   ·exact⟨a,i⟩
   ·exact absurd (if_neg a) f
 ·show(if b<w.1.size then col b else j)=c0 b;rw[if_pos (ay a h.8.4)];exact h.7 b a
 ·exact⟨c.1.trans h.8.1,c.2.trans h.8.2,c.3.trans h.8.3,bu h.8.4 c.4,λb a p=>(c.5 b (ay a h.8.4) p).trans (h.8.5 b a p)⟩
theorem NewJ.done(h:NewJ w1 W S n n c0 w col xs Hs){L:Nat->Prop}(n4:n<=4)(lo:10<=S/\10<=W)(g:W≠S)(m:W<w1.1.size)(cW:c0 W=5)(hL:∀b,L b->b<w1.1.size/\c0 b=4/\b≠S)(hg:∀b,b<10->c0 b=7\/c0 b=4)(l:Lay w1):WM L W ⟨Hs.mapIdx Dr,[],0⟩ w:=by
 have f:∀(k:Nat) (d:HW),(Hs.mapIdx Dr)[k]?=I d->∃H,Hs[k]?=I H/\d=Dr k H:=λk d e=>by
  rw[List.getElem?_mapIdx]at e;cases e2:Hs[k]? with
  |none=>rw[e2]at e;cases e
  |some H=>rw[e2]at e;exact⟨H,rfl,(Option.some.inj e).symm⟩
 have c:=h.3;rw[bJ,List.replicate_zero,cL,bG]at c;have a:xs.length=n:=h.1;refine⟨col,S,n,xs,aj E 0 0,[],by rw[a];exact h.4,⟨c,h.len⟩,by rw[a];exact n4,lo,g,by rw[a,List.length_mapIdx];exact h.2.symm,λk x d hx e=>?_,λk x st hx e=>?_,ba _ _ _ _,λb c=>by simp[Value.ownBlock]at c,(h.7 W m).trans cW,rfl,λj p q o=>by simp at o,λb c=>?_,λb c=>by rw[h.7 b (by have:=l.5;omega)];exact hg b c,l.grown h.8 lo.1⟩
 ·obtain⟨H,h1,rfl⟩:=f k d e;rw[h.5 k x H hx h1];exact⟨rfl,rfl,bg _⟩
 ·rw[cH]at e;cases e2:(Hs.mapIdx Dr)[k]? with
  |none=>rw[e2]at e;cases e
  |some d=>rw[e2]at e;obtain rfl:=af e;obtain⟨H,h1,rfl⟩:=f k d e2;rw[h.5 k x H hx h1];exact(h.6 k H h1).place rfl rfl
 ·obtain⟨i,a2,a3⟩:=hL b c;exact⟨ay i h.8.4,(h.7 b i).trans a2,a3⟩
end
theorem OQ{w:ax}{b:Array Oper}{rest:List Oper}{o:Oper}{a:Act}{Q:Exit->Act->ax->Prop}(hg:o.6=E)(l c:Operand)(f:o.2=Op.makeSlice 93 l c)(n:Nat)(p:a.eval l=Y G (n:Int))(hc:a.eval c=Y G (n:Int))(r:n<=4)(k:∀w',Hid (w'.ownsRow w.1.size 120 304 (aj (I ⟨w.1.size,0,E⟩) n n) n (aV n DK).flatten/\w.grownBy w' E)->dh ab b Q rest (a.put o.1 (aj (I ⟨w.1.size,0,E⟩) n n)) w'):dh ab b Q (o::rest) a w:=by
 obtain⟨i0,z0,m,q,j,g,d⟩:∃i z,ab.info? 120=I i/\i.8=I z/\z.cells.1=DK/\i.3=304/\i.4=4832:=by
  have h:=RU;cases e:ab.info? 120 with
  |none=>rw[e]at h;cases h
  |some i=>
   rw[e]at h;simp only[Option.map_some,dk,Prod.mk.injEq]at h;cases e2:i.8 with
   |none=>rw[e2]at h;simp at h
   |some z=>rw[e2]at h;exact⟨i,z,rfl,e2,by simpa using h.1,h.2.1,h.2.2⟩
 refine wpList_make_full _ hg l c 93 f w.1.size 120 i0 z0 304 underlying93 m q g G G _ _ n p hc rfl rfl (by rw[d];omega) (by unfold cg;omega) (ag _) (λw' h1 h2=>k w' (Aa ⟨?_,h2⟩));rw[<-Xv j n];exact h1
theorem Vd(L:Nat->Prop)(n:Nat)(w:ax)(h1:1<=n)(U:n<=4)(P:Lay w)(hL:∀b,L b->b<w.1.size):aq ab 14 #[Y G (n:Int)] w λe w'=>∃W,e=ac (az #[ah (I ⟨W,0,E⟩),aQ])/\Hid (w.1.size<=W/\aA w.1.size w w'/\∃Hs:List Nat,Hs.length=n/\WM L W ⟨Hs.mapIdx Dr,[],0⟩ w'):=by
 classical
 have s:=P.5;let A:Nat->Nat->Nat:=λW b=>if L b then 4 else if b<10 then 7 else if b=W then 5 else 6;have f:Hid (∀V:ax,V.ownsRow w.1.size 120 304 (aj (I ⟨w.1.size,0,E⟩) n n) n (aV n DK).flatten->NewJ (V.alloc (bb #[aj (I ⟨w.1.size,0,E⟩) n n,aj E 0 0,Y G 0] 96)) V.1.size w.1.size n 0 (A V.1.size) (V.alloc (bb #[aj (I ⟨w.1.size,0,E⟩) n n,aj E 0 0,Y G 0] 96)) (A V.1.size) [] []):=Aa (λV ho=>by
  refine⟨rfl,rfl,?_,Blk.new V #[aj (I ⟨w.1.size,0,E⟩) n n,aj E 0 0,Y G 0] 96,λk x H hx=>by simp at hx,λk H hH=>by simp at hH,λb l=>rfl,⟨rfl,rfl,rfl,ag _,λ_ _ _=>rfl⟩⟩;obtain⟨S,c1,c2,c3,-⟩:=Bv ho;have c4:S=(aV n DK).flatten:=by rw[<-c3,aK (by rw[c2];exact ag _)]
  rw[c4]at c1;exact Bn (o:=bb #[aj (I ⟨w.1.size,0,E⟩) n n,aj E 0 0,Y G 0] 96) c1);have p:Hid (∀(V w1 M:ax) (a:Nat->Nat) (xs:List AJ) (Hs:List Nat),V.1.size<w1.1.size->w.1.size<V.1.size->aA w.1.size w w1->NewJ w1 V.1.size w.1.size n n (A V.1.size) M a xs Hs->aA w.1.size w M/\∃Hs:List Nat,Hs.length=n/\WM L V.1.size ⟨Hs.mapIdx Dr,[],0⟩ M):=Aa (λV w1 M a xs Hs B a3 i h=>by
  refine⟨⟨h.8.1.trans i.1,h.8.2.trans i.2,h.8.3.trans i.3,bu i.4 h.8.4,λb l=>(h.8.5 b (ay l i.4) (λe=>by have:=af e;omega)).trans (i.5 b l)⟩,Hs,h.2,h.done U ⟨s,O⟩ O B ?_ (λb l=>?_) (λb l=>?_) (P.on ⟨i.1,i.2,i.3,i.4,λb l=>i.5 b O⟩)⟩
  ·show(if L V.1.size then 4 else if V.1.size<10 then 7 else if V.1.size=V.1.size then 5 else 6)=5;rw[if_neg (λq=>by have:=hL _ q;omega),if_neg O,if_pos rfl]
  ·have a2:=hL b l;refine⟨ay a2 i.4,?_,O⟩;show(if L b then 4 else if b<10 then 7 else if b=V.1.size then 5 else 6)=4;rw[if_pos l]
  ·show(if L b then 4 else if b<10 then 7 else if b=V.1.size then 5 else 6)=7\/(if L b then 4 else if b<10 then 7 else if b=V.1.size then 5 else 6)=4;by_cases q:L b
   ·rw[if_pos q];exact aG rfl
   ·rw[if_neg q,if_pos l];exact aw rfl);have HL:=Aa hL;have z:=Aa P;have a4:(1:Int)<=(n:Int):=O;have a5:(n:Int)<=4:=O;clear hL P;go_enter func14,ntmps14;go_wp2_with(at_make;go_must(refine OQ rfl _ _ rfl n rfl rfl U ?_));intro V B;have y:=B.o.1;have d:=B.o.2;have m:=Aa (f.o V y);have X:w.1.size<V.1.size:=(y.lt w.1.size rfl).2;have c:aA w.1.size w (V.alloc (bb #[aj (I ⟨w.1.size,0,E⟩) n n,aj E 0 0,Y G 0] 96)):=by have h0:aA w.1.size w V:=⟨d.1,d.2,d.3,d.4,λb l=>d.5 b l oS⟩;exact h0.alloc d.4 _
 obtain⟨w1,a0⟩:∃w1,V.alloc (bb #[aj (I ⟨w.1.size,0,E⟩) n n,aj E 0 0,Y G 0] 96)=w1:=⟨_,rfl⟩;rw[a0]at m c;have D:V.1.size<w1.1.size:=(aX.1 m.o.4).1;have d0:w1.cell? ⟨V.1.size,0,E⟩=I (aj (I ⟨w.1.size,0,E⟩) n n):=m.o.4.cell 0;have Q:=Aa c;have t:Hid (∀R:ax,w1.grownBy R (I w.1.size)->Lay R):=Aa (λR hg=>(z.o.on (w':=w1) ⟨c.1,c.2,c.3,c.4,λb l=>c.5 b O⟩).grown hg s);clear y d c f B;go_wp2;go_loopw[22] (λv wr=>∃j:Nat,j<=n/\v=Y G j/\Hid (∃a xs Hs,NewJ w1 V.1.size w.1.size n j (A V.1.size) wr a xs Hs)) (λv _=>n-(bw v).toNat);case atStart=>exact⟨0,aO _,rfl,Aa ⟨_,_,_,m.o⟩⟩
 case round=>
  clear d0 m;obtain⟨j,hj,rfl,N⟩:=hrel;by_cases u:j<n
  ·have HO:Hid (aq ab 40 #[ah (I ⟨V.1.size,0,E⟩),Y G (j:Int)] wr λe w'=>e=ac (az #[])/\Hid (∃a xs Hs,NewJ w1 V.1.size w.1.size n (j+1) (A V.1.size) w' a xs Hs)):=Aa (by obtain⟨a,xs,Hs,g⟩:=N.o;refine(Sj V.1.size w.1.size j n n (AI xs) (aV (n-(j+1)) DK).flatten Oe (ah E) (Y G 0) [] wr (g.4.cell 0) (g.disk u) u U O (t.o wr g.8) (ZK (k:=0) O)).mono ?_;rintro e w' ⟨rfl,r⟩;obtain⟨r1,r2,r3⟩:=r.o;exact⟨rfl,Aa ⟨_,_,_,g.step u O D O r1 r2 r3⟩⟩);clear N;go_wp2_with(go_at_call 40;go_must(refine HO.o.mono ?_);rintro e M ⟨rfl,h2⟩;refine ak ?_);refine Aa ?_;go_wp2;go_roundw;case rel=>exact⟨j+1,O,by go_num,h2⟩
   case measure=>simp[bw];omega
  ·obtain rfl:j=n:=O;have HF:Hid (w.1.size<=V.1.size/\aA w.1.size w wr/\∃Hs:List Nat,Hs.length=j/\WM L V.1.size ⟨Hs.mapIdx Dr,[],0⟩ wr):=Aa (by obtain⟨a,xs,Hs,g⟩:=N.o;obtain⟨a1,a2⟩:=p.o V w1 wr a xs Hs D X Q.o g;exact⟨O,a1,a2⟩);clear N p;go_wp2;go_ret2;exact⟨_,rfl,HF⟩
theorem Ub(m:Mg)(X:Nat)(a:Option Addr)(d n:Nat)(ids:List Int)(w:ax)(hx:w.cell? ⟨X,0,E⟩=I (aj a n d))(v:X<w.1.size)(u:ids.length=n)(y:n<=1000)(t:Nums w.1.size w a ids):aq ab 104 #[m.val,ah (I ⟨X,0,E⟩)] w λe w'=>e=ac (bq (aY (m.1∈ids)))/\aA w.1.size w w':=by
 obtain⟨W0,f⟩:∃W0,w.alloc (bb #[Y G m.1,Y G m.2,am m.3,am m.4,Y G m.5] 52)=W0:=⟨_,rfl⟩;have c:aA w.1.size w W0:=by rw[<-f];exact(aB _ _).alloc (ag _) _
 have c0:W0.cell? ⟨w.1.size,0,E⟩=I (Y G m.1):=by rw[<-f];simp
 have A:=(c.cell (p:=⟨X,0,E⟩) v).trans hx;have HC:Hid (∀W,W0.1=W.1->aq ab 105 #[aj a n d,Y G m.1] W λe w'=>e=ac (bq (aY (m.1∈ids)))/\W=w'):=Aa (λW r=>Gc a d n ids m.1 W u y (λk z B=>by obtain⟨b,D,e,x,l⟩:=(t.on c c.4) k z B;exact⟨b,D,e,by rw[<-r];exact x,by rw[<-l];unfold World.cell?;rw[r]⟩));generalize aY (m.1∈ids)=q at HC⊢;have g:=Aa c;clear hx t u c;simp only[Mg.val];go_enter func104,ntmps104;have j:=Aa (HC.o W0 rfl);go_wp2_with(go_at_call 105;go_must(refine j.o.mono ?_);rintro e w1 ⟨rfl,rfl⟩;refine ak ?_);refine Aa ?_;go_wp2;go_ret;exact⟨rfl,g.o⟩
def Wz(rs:D3)(j:Nat)(ar:Int):List Mg:=(Ar bf (AA (rs.Q (aL j)))).filter λm=>!decide (m.1∈(if rs.7 j<=ar then rs.6 j else []))
section
variable{L:Nat->Prop}{W:Nat}{w:ax}{s:WSt}{h:HW}{k i p:Nat}
theorem N5(b:WM L W s w)(hk:s.1[k]?=I h)(h0:HOk h k i p)(j:Nat):aq ab 12 #[ah (I ⟨h.H,0,E⟩),Y G (j:Int)] w λe w'=>(Bm h.1.3 j=ai/\e=ac (az #[aj E 0 0,cf 70 (Y G 2)])/\w=w')\/(Bm h.1.3 j=aE/\∃v',e=ac (az #[v',aQ])/\Hid (w'.ownsRow w.1.size 52 5 v' (Ar bf (AA (h.1.Q (aL j)))).length (AK (Ar bf (AA (h.1.Q (aL j)))))/\aA w.1.size w w')):=by obtain⟨a,D,c,-⟩:=b.house hk;have:=TF a h.H D _ (j:Int) w c (λj=>by have:=h0.len (aL j);show(h.1.Q (aL j)).length<=1000;omega);rw[an]at this;exact this
theorem Vc(b:WM L W s w)(hk:s.1[k]?=I h)(h0:HOk h k i p)(j:Nat):aq ab 102 #[ah (I ⟨h.H,0,E⟩),Y G (j:Int)] w (Lv h.st (j:Int) w):=by obtain⟨a,D,c,-⟩:=b.house hk;exact TA a h.H D _ (j:Int) w c (λj=>by have:=(h0.1.17 j).2;show(h.1.6 j).length<=1000;omega)
theorem Pp(f:WM L W s w)(hk:s.1[k]?=I h)(j:Nat):aq ab 62 #[ah (I ⟨h.H,0,E⟩),Y G (j:Int)] w λe w'=>((Bm h.1.3 j=ai/\e=ac (az #[Y G 0,cf 70 (Y G 2)]))\/(Bm h.1.3 j=aE/\e=ac (az #[Y G (h.1.8 j),aQ])))/\w=w':=by
 obtain⟨d,D,g,-⟩:=f.house hk;refine(OH d h.H D _ (j:Int) w g).mono ?_;rintro e w' (⟨a,b,c⟩|⟨a,b,c⟩)
 ·exact⟨aw ⟨a,b⟩,c⟩
 ·rw[an]at b;exact⟨aG ⟨a,b⟩,c⟩
theorem Xl(b:WM L W s w)(hk:s.1[k]?=I h)(h0:HOk h k i p):aq ab 61 #[ah (I ⟨h.H,0,E⟩)] w λe w'=>∃ks v',e=ac v'/\Hid (Ie (λs=>h.1.Q (aJ s)) ks/\w'.ownsRow w.1.size 52 5 v' (Bo (λs=>h.1.Q (aJ s)) ks).length (AK (Bo (λs=>h.1.Q (aJ s)) ks))/\aA w.1.size w w'):=by obtain⟨a,D,c,-⟩:=b.house hk;exact Wl a h.H D _ w c (λs=>by have:=h0.len (aJ s);show(h.1.Q (aJ s)).length<=1000;omega) (by have:=h0.big;show h.N<1000000;omega)
theorem Vg(b:WM L W s w)(hk:s.1[k]?=I h)(h0:HOk h k i p)(t:ByteArray)(hs:t.size<=cg):aq ab 13 #[ah (I ⟨h.H,0,E⟩),am t] w λe w'=>(Ba h.2 t=ai/\e=ac (az #[aj E 0 0,cf 70 (Y G 7)])/\aA w.1.size w w')\/(Ba h.2 t=aE/\∃v',e=ac (az #[v',aQ])/\Hid (w'.ownsRow w.1.size 52 5 v' (Ar bd (AA (h.1.Q (aJ t)))).length (AK (Ar bd (AA (h.1.Q (aJ t)))))/\aA w.1.size w w')):=by obtain⟨a,D,c,-⟩:=b.house hk;exact TE a h.H D _ t w c h0.1.4 hs (λs=>by have:=h0.len (aJ s);show(h.1.Q (aJ s)).length<=1000;omega)
theorem VS(S:List Mg)(ids:List Int)(a:Option Addr)(c:Nat)(X:Nat)(a2:Option Addr)(d:Nat)(B:Nat)(w:ax)(q:S.length<=1000)(t:ids.length<=1000)(v:w.ownsRow B 52 5 (aj a S.length c) S.length (AK S))(r:w.cell? ⟨X,0,E⟩=I (aj a2 ids.length d))(f:X<w.1.size)(u:Nums w.1.size w a2 ids)(h1:∀b,(aj a S.length c).ownBlock=I b->b≠X)(h2:∀b,(aj a S.length c).ownBlock=I b->∀b2 o,a2=I ⟨b2,o,E⟩->b≠b2):aq ab 103 #[aj a S.length c,br (bp 104) #[] #[ah (I ⟨X,0,E⟩)]] w λe w'=>∃v',e=ac v'/\Hid (w'.ownsRow B 52 5 v' (S.filter λm=>!decide (m.1∈ids)).length (AK (S.filter λm=>!decide (m.1∈ids)))/\w.grownBy w' (aj a S.length c).ownBlock):=by
 refine(S9 a c S.length B S (λm=>aY (m.1∈ids)) X w rfl q v (λW x hg=>?_)).mono ?_
 ·refine Ub x X a2 d ids.length ids W ((cp (hg.5 X f (λe=>h1 X e.symm rfl))).trans r) (ay f hg.4) rfl t (λj z y=>?_);obtain⟨b,o,g,l,n⟩:=u j z y;exact⟨b,o,g,ay l hg.4,(cp (hg.5 b l (λe=>h2 b e.symm b o g rfl))).trans n⟩
 ·rintro e w' ⟨v',m,rfl,rfl,A,H,D⟩;exact⟨v',rfl,Aa ⟨A,D⟩⟩
end
def Me(rs:D3)(j:Nat)(ar:Int):List Mg:=if Bm rs.3 j=aE then Wz rs j ar else []
section
variable{L:Nat->Prop}{W:Nat}{w:ax}{s:WSt}{h:HW}{k i p:Nat}
theorem Sg(hM:WM L W s w)(hk:s.1[k]?=I h)(h0:HOk h k i p)(j:Nat)(ar:Int)(b5:0<=ar):aq ab 63 #[ah (I ⟨h.H,0,E⟩),Y G (j:Int),Y G ar] w λe w'=>∃v',e=ac v'/\Hid (w'.ownsRow w.1.size 52 5 v' (Me h.1 j ar).length (AK (Me h.1 j ar))/\aA w.1.size w w'):=by
 have B:=Aa (N5 hM hk h0 j);have HD:Hid (∀w1,aA w.1.size w w1->aq ab 102 #[ah (I ⟨h.H,0,E⟩),Y G (j:Int)] w1 (Lv h.st (j:Int) w1)):=Aa (λw1 X=>Vc (hM.below X) hk h0 j);cases ha:Bm h.1.3 j with
 |false=>
  have e0:Me h.1 j ar=[]:=by unfold Me;rw[ha,if_neg oD]
  rw[e0];have v:Hid (aq ab 12 #[ah (I ⟨h.H,0,E⟩),Y G (j:Int)] w λe w'=>e=ac (az #[aj E 0 0,cf 70 (Y G 2)])/\w=w'):=Aa (B.o.mono (λe w' q=>by
   rcases q with⟨-,d,q2⟩|⟨d,-⟩
   ·exact⟨d,q2⟩
   ·rw[ha]at d;cases d));clear hM hk h0 B HD ha e0;go_enter ce,ca;go_wp2_with(go_at_call 12;go_must(refine v.o.mono ?_);rintro e w1 ⟨rfl,rfl⟩;refine ak ?_);refine Aa ?_;go_wp2;go_ret;exact⟨_,rfl,Aa ⟨ba _ _ _ _,aB _ _⟩⟩
 |true=>
  have e0:Me h.1 j ar=Wz h.1 j ar:=by unfold Me;rw[ha,if_pos rfl]
  rw[e0];obtain⟨S,HS⟩:∃S,Hid (Ar bf (AA (h.1.Q (aL j)))=S):=⟨_,rfl⟩;have b0:S.length<=1000:=by rw[<-HS.o];have h1:=Ce bf (AA (h.1.Q (aL j)));rw[A4 (h0.1.q.1 _)]at h1;have h2:=h0.len (aL j);omega
  obtain⟨ids,g⟩:∃ids,Hid (h.1.6 j=ids):=⟨_,rfl⟩;have b4:ids.length<=1000:=by rw[<-g.o];have:=(h0.1.17 j).2;omega
  have v:Hid (aq ab 12 #[ah (I ⟨h.H,0,E⟩),Y G (j:Int)] w λe w'=>∃v',e=ac (az #[v',aQ])/\Hid (w'.ownsRow w.1.size 52 5 v' S.length (AK S)/\aA w.1.size w w')):=Aa (B.o.mono (λe w' q=>by
   rcases q with⟨d,-⟩|⟨-,d⟩
   ·rw[ha]at d;cases d
   ·rw[<-HS.o];exact d));have u:Hid (∀(l:List Int) (a:Option Addr) (N:Nat) (a2:Option Addr) (f:Nat) (w1 y:ax),aA w.1.size w w1->w1.ownsRow w.1.size 52 5 (aj a S.length N) S.length (AK S)->aA w1.1.size w1 y->l.length<=1000->Nums y.1.size y a2 l->(∀b o,a2=I ⟨b,o,E⟩->w1.1.size<=b)->aq ab 103 #[aj a S.length N,br (bp 104) #[] #[ah (I ⟨y.1.size,0,E⟩)]] (y.alloc (bb #[aj a2 l.length f] 34)) λe w'=>∃v',e=ac v'/\Hid (w'.ownsRow w.1.size 52 5 v' (S.filter λm=>!decide (m.1∈l)).length (AK (S.filter λm=>!decide (m.1∈l)))/\aA w.1.size w w')):=Aa (λl a N a2 f w1 y a6 ho P hl hn b3=>by
   have a7:=Blk.new y #[aj a2 l.length f] 34;have U:=(aB y.1.size y).alloc (ag _) (bb #[aj a2 l.length f] 34);have b1:=(aX.1 a7).1;have a0:=Ad a6 a6.4 P;have a3:=Ad a0 a0.4 U;have a8:(y.alloc (bb #[aj a2 l.length f] 34)).ownsRow w.1.size 52 5 (aj a S.length N) S.length (AK S):=Au ho (λc hc=>(U.5 c (ay (ho.lt c hc).2 P.4)).trans (P.5 c (ho.lt c hc).2));refine(VS S l a N y.1.size a2 f w.1.size _ b0 hl a8 (a7.cell 0) b1 (hn.on U U.4) (λb hb e=>?_) (λb hb b2 o e e2=>?_)).mono ?_
   ·have:=(ho.lt b hb).2;have:=P.4;omega
   ·have:=(ho.lt b hb).2;have:=b3 b2 o e;omega
   ·rintro e w' ⟨v',rfl,r⟩;exact⟨v',rfl,Aa ⟨r.o.1,AW a3 a8 r.o.2 a3.4 (ag _)⟩⟩);have D:Wz h.1 j ar=S.filter λm=>!decide (m.1∈(if h.1.7 j<=ar then ids else [])):=by unfold Wz;rw[HS.o,g.o]
  by_cases a5:ids=[]
  ·have A:Hid (∀w1,aA w.1.size w w1->aq ab 102 #[ah (I ⟨h.H,0,E⟩),Y G (j:Int)] w1 λe w'=>e=ac (az #[Y G 0,aj E 0 0,aQ])/\w1=w'):=Aa (λw1 X=>(HD.o w1 X).mono (λe w' q=>by
    rcases q with⟨d,-⟩|⟨-,-,d,q2⟩|⟨-,d,-⟩
    ·have d:Bm h.1.3 j=ai:=d;rw[ha]at d;cases d
    ·exact⟨d,q2⟩
    ·have d:h.1.6 ((j:Int)).toNat≠[]:=d;rw[an,g.o]at d;exact absurd a5 d));have a4:Wz h.1 j ar=S.filter λm=>!decide (m.1∈([]:List Int)):=by rw[D,a5];split<;>rfl
   rw[a4];clear hM hk h0 B HD ha e0 D a4 HS g;go_enter ce,ca;go_wp2_with(go_at_call 12;go_must(refine v.o.mono ?_);rintro e w1 ⟨v1,rfl,h1⟩;refine ak ?_);refine Aa ?_;obtain⟨a1,n,rfl⟩:=Ao h1.o.1;have t:=Aa (A.o w1 h1.o.2);go_wp2_with(go_at_call 102;go_must(refine t.o.mono ?_);rintro e y ⟨rfl,rfl⟩;refine ak ?_);refine Aa ?_;have HX:=Aa (u.o [] a1 n E 0 w1 w1 h1.o.2 h1.o.1 (aB _ _) (aO _) (λj z hz=>by simp at hz) (λb o e=>by cases e));have HX:Hid (aq ab 103 #[aj a1 S.length n,br (bp 104) #[] #[ah (I ⟨w1.1.size,0,E⟩)]] (w1.alloc (bb #[aj E 0 0] 34)) λe w'=>∃v',e=ac v'/\Hid (w'.ownsRow w.1.size 52 5 v' (S.filter λm=>!decide (m.1∈([]:List Int))).length (AK (S.filter λm=>!decide (m.1∈([]:List Int))))/\aA w.1.size w w')):=HX;obtain⟨R,HR⟩:∃R,Hid ((S.filter λm=>!decide (m.1∈([]:List Int)))=R):=⟨_,rfl⟩;rw[HR.o]at HX;clear u t A v h1;go_wp2_with(go_at_call 103;go_must(refine HX.o.mono ?_);rintro e w3 ⟨v3,rfl,h3⟩;refine ak ?_);refine Aa ?_;go_wp2;go_ret;exact⟨v3,rfl,by rw[HR.o];exact h3⟩
  ·have a9:=h0.ybd.1 j;obtain⟨md,M⟩:∃md,Hid (h.1.7 j=md):=⟨_,rfl⟩;have A:Hid (∀w1,aA w.1.size w w1->aq ab 102 #[ah (I ⟨h.H,0,E⟩),Y G (j:Int)] w1 λe w'=>∃v',e=ac (az #[Y G md,v',aQ])/\Hid (w'.ownsRow w1.1.size 3 1 v' ids.length (ids.map (Y G))/\aA w1.1.size w1 w')):=Aa (λw1 X=>(HD.o w1 X).mono (λe w' q=>by
    rcases q with⟨d,-⟩|⟨-,d,-⟩|⟨-,-,v',d,q2,q3⟩
    ·have d:Bm h.1.3 j=ai:=d;rw[ha]at d;cases d
    ·have d:h.1.6 ((j:Int)).toNat=[]:=d;rw[an,g.o]at d;exact absurd d a5
    ·have d:e=ac (az #[Y G (h.1.7 ((j:Int)).toNat),v',aQ]):=d;have q2:w'.ownsRow w1.1.size 3 1 v' (h.1.6 ((j:Int)).toNat).length ((h.1.6 ((j:Int)).toNat).map (Y G)):=q2;rw[an,M.o]at d;rw[an,g.o]at q2;exact⟨v',d,Aa ⟨q2,q3⟩⟩));by_cases V:md<=ar
   ·rw[D,M.o,if_pos V];have hd:aY (ar<md)=ai:=by simpa using V
    clear hM hk h0 B HD ha e0 D HS g M a9;go_enter ce,ca;go_wp2_with(go_at_call 12;go_must(refine v.o.mono ?_);rintro e w1 ⟨v1,rfl,h1⟩;refine ak ?_);refine Aa ?_;obtain⟨a1,n,rfl⟩:=Ao h1.o.1;have t:=Aa (A.o w1 h1.o.2);go_wp2_with(go_at_call 102;go_must(refine t.o.mono ?_);rintro e y ⟨v2,rfl,h2⟩;refine ak ?_);refine Aa ?_;obtain⟨a2,f,rfl⟩:=Ao h2.o.1;have HX:=Aa (u.o ids a1 n a2 f w1 y h1.o.2 h1.o.1 h2.o.2 b4 (Gw h2.o.1) (λb o e=>by subst e;exact(h2.o.1.lt b rfl).1));obtain⟨R,HR⟩:∃R,Hid ((S.filter λm=>!decide (m.1∈ids))=R):=⟨_,rfl⟩;rw[HR.o]at HX;clear u t A v h1 h2;go_wp2_with(go_at_call 103;go_must(refine HX.o.mono ?_);rintro e w3 ⟨v3,rfl,h3⟩;refine ak ?_);refine Aa ?_;go_wp2;go_ret;exact⟨v3,rfl,by rw[HR.o];exact h3⟩
   ·have e1:(S.filter λm=>!decide (m.1∈([]:List Int)))=S:=List.filter_eq_self.2 (λx _=>oS);rw[D,M.o,if_neg V,e1];have hd:aY (ar<md)=aE:=by simpa using V
    clear hM hk h0 B HD ha e0 D HS g M a9 e1 u;go_enter ce,ca;go_wp2_with(go_at_call 12;go_must(refine v.o.mono ?_);rintro e w1 ⟨v1,rfl,h1⟩;refine ak ?_);refine Aa ?_;obtain⟨a1,n,rfl⟩:=Ao h1.o.1;have t:=Aa (A.o w1 h1.o.2);go_wp2_with(go_at_call 102;go_must(refine t.o.mono ?_);rintro e y ⟨v2,rfl,h2⟩;refine ak ?_);refine Aa ?_;obtain⟨a2,f,rfl⟩:=Ao h2.o.1;have HF:Hid ((y.alloc (bb #[aj a2 ids.length f] 34)).ownsRow w.1.size 52 5 (aj a1 S.length n) S.length (AK S)/\aA w.1.size w (y.alloc (bb #[aj a2 ids.length f] 34))):=Aa (by have X:=Ad h1.o.2 h1.o.2.4 h2.o.2;exact⟨(BK h1.o.1 h2.o.2).alloc _,X.alloc X.4 _⟩);clear t A v h1 h2;go_wp2;go_ret;exact⟨_,rfl,HF⟩
end
structure RW(w0:ax)(g base n a:Nat)(T:List Mg)(w:ax):Prop where
 own:w.ownsRow base 52 5 (aj (I ⟨g,0,E⟩) n a) n (AK T)
 len:T.length=n
 grown:w0.grownBy w (I g)
theorem RW.refl{w:ax}{g base n a:Nat}{T:List Mg}(h:w.ownsRow base 52 5 (aj (I ⟨g,0,E⟩) n a) n (AK T))(b:T.length=n):RW w g base n a T w:=⟨h,b,⟨rfl,rfl,rfl,ag _,λ_ _ _=>rfl⟩⟩
theorem RW.at_{w0 w:ax}{g base n a:Nat}{T:List Mg}(h:RW w0 g base n a T w){i:Nat}{x:Mg}(hx:T[i]?=I x):w.cell? ⟨g,i*5,E⟩=I (Y G x.1)/\w.cell? ⟨g,i*5+1,E⟩=I (Y G x.2)/\w.cell? ⟨g,i*5+2,E⟩=I (am x.3)/\w.cell? ⟨g,i*5+3,E⟩=I (am x.4)/\w.cell? ⟨g,i*5+4,E⟩=I (Y G x.5):=JH (B9 h.1 h.2 hx)
theorem RW.free{w0 w:ax}{g base n a:Nat}{T:List Mg}(h:RW w0 g base n a T w)(i:Nat):w.frozen? ⟨g,i,E⟩=ai:=h.1.frozenAt i
theorem RW.below{w0 w w':ax}{g base n a:Nat}{T:List Mg}(h:RW w0 g base n a T w)(b:aA w.1.size w w'):RW w0 g base n a T w':=⟨BK h.1 b,h.2,AP h.3 b⟩
theorem RW.put{w0 w:ax}{g base n a:Nat}{T:List Mg}(h:RW w0 g base n a T w){i:Nat}{y:Mg}(b:T[i]?=I y)(x:Mg):RW w0 g base n a (T.set i x) (CZ w g (i*5) x):=by have hs:=Ht h.1 b x;exact⟨hs.1,by rw[aU];exact h.2,Ak h.3 hs.2⟩
theorem RW.drew{w0 w:ax}{g base n a:Nat}{T:List Mg}(h:RW w0 g base n a T w):RW w0 g base n a T w.drew:=h.below (aB _ _).drew
def NS(T:List Mg)(i j:Nat)(x y:Mg):List Mg:=(T.set i y).set j x
theorem RW.swap{w0 w:ax}{g base n a:Nat}{T:List Mg}(h:RW w0 g base n a T w){i j:Nat}{x y:Mg}(hx:T[i]?=I x)(b:T[j]?=I y):RW w0 g base n a (NS T i j x y) (CZ (CZ w g (i*5) y) g (j*5) x):=by have h1:=h.put hx y;have hj:=(aa.1 b).1;exact h1.put (i:=j) (y:=(T.set i y)[j]'(by rw[aU];exact hj)) (ad _) x
theorem WZ(w0:ax)(g base n l a b c:Nat)(T:List Mg)(w:ax)(f:bj)(h:RW w0 g base n l T w)(hn:n<=100000)(ha:a+c<=n)(hb:b+c<=n)(X:a+c<=b)(R:Nat->List Mg)(h0:R 0=T)(B:∀i,i<c->∃x y,(R i)[a+i]?=I x/\(R i)[b+i]?=I y/\R (i+1)=NS (R i) (a+i) (b+i) x y):aq ab 188 #[aj (I ⟨g,0,E⟩) n l,Y G (a:Int),Y G (b:Int),Y G (c:Int),f] w λe w'=>e=ac (az #[])/\Hid (RW w0 g base n l (R c) w'):=by
 have D:=Aa B;have A:Hid (RW w0 g base n l (R 0) w):=Aa (by rw[h0];exact h);clear B h h0;go_enter func188,ntmps188;go_wp2;go_loopw[10] (λv wr=>∃i:Nat,i<=c/\v=Y G i/\Hid (RW w0 g base n l (R i) wr)) (λv _=>c-(bw v).toNat);case atStart=>exact⟨0,aO _,rfl,A⟩
 case round=>
  clear A;obtain⟨i,hi,rfl,HW⟩:=hrel;by_cases t:i<c
  ·obtain⟨x,y,hx,s,q⟩:=D.o i t;obtain⟨H,L,M,N,P⟩:=HW.o.drew.at_ hx;obtain⟨Q,S,U,V,W⟩:=HW.o.drew.at_ s;obtain⟨p0,p1,p2,p3,p4⟩:=HW.o.at_ hx;obtain⟨q0,q1,q2,q3,q4⟩:=HW.o.at_ s;have k:=HW.o.free;have fr:=HW.o.drew.free;have r:Hid (RW w0 g base n l (R (i+1)) (CZ (CZ wr g ((a+i)*5) y) g ((b+i)*5) x).drew):=Aa (by rw[q];exact(HW.o.swap hx s).drew);have u:G.wrap ((a:Int)+(i:Int))=((a+i:Nat):Int):=by rw[ao];omega
   have z:G.wrap ((b:Int)+(i:Int))=((b+i:Nat):Int):=by rw[ao];omega
   obtain⟨d,m⟩:∃d,Hid (a+i=d):=⟨_,rfl⟩;obtain⟨j,p⟩:∃j,Hid (b+i=j):=⟨_,rfl⟩;have a0:d<n:=by rw[<-m.o];omega
   have a1:j<n:=by rw[<-p.o];omega
   rw[m.o]at H L M N P p0 p1 p2 p3 p4 u r;rw[p.o]at Q S U V W q0 q1 q2 q3 q4 z r;have f0:wr.drew.frozen? ⟨g,d*5,E⟩=ai:=fr _;have g0:wr.drew.frozen? ⟨g,j*5,E⟩=ai:=fr _;have f1:wr.drew.frozen? ⟨g,d*5+1,E⟩=ai:=fr _;have g1:wr.drew.frozen? ⟨g,j*5+1,E⟩=ai:=fr _;have f2:wr.drew.frozen? ⟨g,d*5+2,E⟩=ai:=fr _;have g2:wr.drew.frozen? ⟨g,j*5+2,E⟩=ai:=fr _;have f3:wr.drew.frozen? ⟨g,d*5+3,E⟩=ai:=fr _;have g3:wr.drew.frozen? ⟨g,j*5+3,E⟩=ai:=fr _;have f4:wr.drew.frozen? ⟨g,d*5+4,E⟩=ai:=fr _;have g4:wr.drew.frozen? ⟨g,j*5+4,E⟩=ai:=fr _;have s0:wr.frozen? ⟨g,d*5,E⟩=ai:=k _;have t0:wr.frozen? ⟨g,j*5,E⟩=ai:=k _;have s1:wr.frozen? ⟨g,d*5+1,E⟩=ai:=k _;have t1:wr.frozen? ⟨g,j*5+1,E⟩=ai:=k _;have s2:wr.frozen? ⟨g,d*5+2,E⟩=ai:=k _;have t2:wr.frozen? ⟨g,j*5+2,E⟩=ai:=k _;have s3:wr.frozen? ⟨g,d*5+3,E⟩=ai:=k _;have t3:wr.frozen? ⟨g,j*5+3,E⟩=ai:=k _;have s4:wr.frozen? ⟨g,d*5+4,E⟩=ai:=k _;have t4:wr.frozen? ⟨g,j*5+4,E⟩=ai:=k _;have a2:d≠j:=by rw[<-m.o,<-p.o];omega
   have c8:¬d*5=j*5:=O;have a3:¬j*5=d*5:=O;have c9:¬d*5=j*5+1:=O;have a4:¬j*5+1=d*5:=O;have d5:¬d*5=j*5+2:=O;have a5:¬j*5+2=d*5:=O;have d6:¬d*5=j*5+3:=O;have a6:¬j*5+3=d*5:=O;have d7:¬d*5=j*5+4:=O;have a7:¬j*5+4=d*5:=O;have d8:¬d*5+1=j*5:=O;have a8:¬j*5=d*5+1:=O;have d9:¬d*5+1=j*5+1:=O;have a9:¬j*5+1=d*5+1:=O;have e5:¬d*5+1=j*5+2:=O;have b0:¬j*5+2=d*5+1:=O;have e6:¬d*5+1=j*5+3:=O;have b1:¬j*5+3=d*5+1:=O;have e7:¬d*5+1=j*5+4:=O;have b2:¬j*5+4=d*5+1:=O;have e8:¬d*5+2=j*5:=O;have b3:¬j*5=d*5+2:=O;have e9:¬d*5+2=j*5+1:=O;have b4:¬j*5+1=d*5+2:=O;have f5:¬d*5+2=j*5+2:=O;have b5:¬j*5+2=d*5+2:=O;have f6:¬d*5+2=j*5+3:=O;have b6:¬j*5+3=d*5+2:=O;have n24:¬d*5+2=j*5+4:=O;have b7:¬j*5+4=d*5+2:=O;have f7:¬d*5+3=j*5:=O;have b8:¬j*5=d*5+3:=O;have f8:¬d*5+3=j*5+1:=O;have b9:¬j*5+1=d*5+3:=O;have f9:¬d*5+3=j*5+2:=O;have c0:¬j*5+2=d*5+3:=O;have g5:¬d*5+3=j*5+3:=O;have c1:¬j*5+3=d*5+3:=O;have g6:¬d*5+3=j*5+4:=O;have c2:¬j*5+4=d*5+3:=O;have g7:¬d*5+4=j*5:=O;have c3:¬j*5=d*5+4:=O;have g8:¬d*5+4=j*5+1:=O;have c4:¬j*5+1=d*5+4:=O;have g9:¬d*5+4=j*5+2:=O;have c5:¬j*5+2=d*5+4:=O;have h1:¬d*5+4=j*5+3:=O;have c6:¬j*5+3=d*5+4:=O;have h2:¬d*5+4=j*5+4:=O;have c7:¬j*5+4=d*5+4:=O;clear hx s q HW fr k;go_wp2;go_region;all_goals
    go_wp2;go_roundw;case rel=>refine⟨i+1,O,by go_num,?_⟩;unfold CZ at r;exact r
    case measure=>simp[bw];omega
  ·obtain rfl:i=c:=O;go_wp2;go_end0;exact⟨rfl,HW⟩
theorem Qn{α:Type}(A B:List α)(x y:α){k:Nat}(h:A.length=k):(A++x::B).set k y=A++y::B:=by subst h;simp
theorem IJ{α:Type}(A B:List α)(x:α){k:Nat}(h:A.length=k):(A++x::B)[k]?=I x:=by subst h;simp
theorem IQ(A B C:List Mg)(x y:Mg){i j:Nat}(a:A.length=i)(hj:A.length+1+B.length=j):(A++x::(B++y::C))[i]?=I x/\(A++x::(B++y::C))[j]?=I y/\NS (A++x::(B++y::C)) i j x y=A++y::(B++x::C):=by
 have e:∀z w:Mg,A++z::(B++w::C)=(A++z::B)++w::C:=λz w=>oS;have b:∀z:Mg,(A++z::B).length=j:=λz=>by rw[ae,bK];omega
 refine⟨IJ _ _ _ a,by rw[e];exact IJ _ _ _ (b x),?_⟩;unfold NS;rw[Qn _ _ _ _ a,e,Qn _ _ _ _ (b y),<-e]
theorem Hu(w0:ax)(g base n d a b c:Nat)(P X M Q R:List Mg)(w:ax)(f:bj)(h:RW w0 g base n d (P++X++M++Q++R) w)(s:n<=100000)(H:P.length=a)(L:a+c+M.length=b)(B:X.length=c)(D:Q.length=c):aq ab 188 #[aj (I ⟨g,0,E⟩) n d,Y G (a:Int),Y G (b:Int),Y G (c:Int),f] w λe w'=>e=ac (az #[])/\Hid (RW w0 g base n d (P++Q++M++X++R) w'):=by
 have k:=h.2;simp only[ae]at k;have:=WZ w0 g base n d a b c _ w f h s O O O (λi=>P++(Q.take i++X.drop i)++M++(X.take i++Q.drop i)++R) oS (λi N=>by
  obtain⟨x,hx⟩:∃x,X[i]?=I x:=⟨_,ad O⟩;obtain⟨y,m⟩:∃y,Q[i]?=I y:=⟨_,ad O⟩;have p:X.drop i=x::X.drop (i+1):=by obtain⟨h1,rfl⟩:=aa.1 hx;exact aT h1
  have q:Q.drop i=y::Q.drop (i+1):=by obtain⟨h1,rfl⟩:=aa.1 m;exact aT h1
  have z:X.take (i+1)=X.take i++[x]:=by rw[aW,hx];rfl
  have A:Q.take (i+1)=Q.take i++[y]:=by rw[aW,m];rfl
  have l:P++(Q.take i++X.drop i)++M++(X.take i++Q.drop i)++R=(P++Q.take i)++x::((X.drop (i+1)++M++X.take i)++y::(Q.drop (i+1)++R)):=by rw[p,q];simp
  have o:P++(Q.take (i+1)++X.drop (i+1))++M++(X.take (i+1)++Q.drop (i+1))++R=(P++Q.take i)++y::((X.drop (i+1)++M++X.take i)++x::(Q.drop (i+1)++R)):=by rw[z,A];simp
  obtain⟨t,u,v⟩:=IQ (P++Q.take i) (X.drop (i+1)++M++X.take i) (Q.drop (i+1)++R) x y (i:=a+i) (j:=b+i) (by rw[ae,au];omega) (by simp only[ae,au,aH];omega);refine⟨x,y,?_,?_,?_⟩
  ·show(P++(Q.take i++X.drop i)++M++(X.take i++Q.drop i)++R)[a+i]?=_;rw[l];exact t
  ·show(P++(Q.take i++X.drop i)++M++(X.take i++Q.drop i)++R)[b+i]?=_;rw[l];exact u
  ·show P++(Q.take (i+1)++X.drop (i+1))++M++(X.take (i+1)++Q.drop (i+1))++R=NS (P++(Q.take i++X.drop i)++M++(X.take i++Q.drop i)++R) (a+i) (b+i) x y;rw[l,o,v]);have r:P++(Q.take c++X.drop c)++M++(X.take c++Q.drop c)++R=P++Q++M++X++R:=by rw[aK O,aK O,bx O,bx O];simp
 rw[r]at this;exact this
theorem Yq(w0:ax)(g base n c a m b:Nat)(P X a4 R:List Mg)(w:ax)(f:bj)(h:RW w0 g base n c (P++X++a4++R) w)(W:n<=100000)(ha:P.length=a)(hm:a+X.length=m)(hb:m+a4.length=b)(hX:0<X.length)(hY:0<a4.length):aq ab 163 #[aj (I ⟨g,0,E⟩) n c,Y G (a:Int),Y G (m:Int),Y G (b:Int),f] w λe w'=>e=ac (az #[])/\Hid (RW w0 g base n c (P++a4++X++R) w'):=by
 have d:=h.2;simp only[ae]at d;have D:Hid (∃A U V B,(RW w0 g base n c (A++U++V++B) w/\U.length=X.length/\V.length=a4.length/\A.length+X.length=m)/\P++a4++X++R=A++V++U++B):=Aa ⟨P,X,a4,R,⟨h,rfl,rfl,O⟩,rfl⟩;obtain⟨i0,t⟩:∃i0,Hid (X.length=i0):=⟨_,rfl⟩;obtain⟨p,u⟩:∃p,Hid (a4.length=p):=⟨_,rfl⟩;rw[t.o,u.o]at D;rw[t.o]at hX hm d;rw[u.o]at hY hb d;have w1:G.wrap ((m:Int)-(a:Int))=(i0:Int):=by rw[ao];omega
 have w2:G.wrap ((b:Int)-(m:Int))=(p:Int):=by rw[ao];omega
 have a3:m<=100000:=O;have a0:b<=n:=O;have M:i0<=m:=O;have Q:m+p<=n:=O;clear h d ha hm hb;go_enter func163,ntmps163;go_wp2;go_loopg[10,11] (i0+p) (λgk vi vj wr=>∃i j:Nat,vi=Y G i/\vj=Y G j/\0<i/\0<j/\i<=m/\m+j<=n/\i+j<=gk/\Hid (∃A U V B,(RW w0 g base n c (A++U++V++B) wr/\U.length=i/\V.length=j/\A.length+i=m)/\P++a4++X++R=A++V++U++B));case atStart=>exact⟨i0,p,rfl,rfl,hX,hY,M,Q,ag _,D⟩
 case round=>
  clear D;obtain⟨i,j,rfl,rfl,hi,hj,N,S,hg,HS⟩:=hrel;have w3:G.wrap ((m:Int)-(i:Int))=((m-i:Nat):Int):=by rw[ao];omega
  obtain⟨z,v⟩:∃z:Nat,Hid (m+j=z):=⟨_,rfl⟩;have w4:G.wrap ((m:Int)+(j:Int))=(z:Int):=by rw[ao,<-v.o];omega
  by_cases e:i=j
  ·subst e;have HC:Hid (aq ab 188 #[aj (I ⟨g,0,E⟩) n c,Y G ((m-i:Nat):Int),Y G (m:Int),Y G (i:Int),f] wr λe w'=>e=ac (az #[])/\Hid (RW w0 g base n c (P++a4++X++R) w')):=Aa (by obtain⟨A,U,V,B,⟨r,l1,y,l3⟩,x⟩:=HS.o;rw[x];have:=Hu w0 g base n c (m-i) m i A U [] V B wr f (by simpa using r) W O oO l1 y;simpa using this);clear HS;go_wp2_with(go_at_call 188;go_must(refine HC.o.mono ?_);rintro e w5 ⟨rfl,h5⟩;refine ak ?_);refine Aa ?_;go_wp2;go_end0;exact⟨rfl,h5⟩
  ·have en:((i:Int)==(j:Int))=ai:=by rw[beq_eq_false_iff_ne];omega
   by_cases a2:j<i
   ·have w5:G.wrap ((i:Int)-(j:Int))=((i-j:Nat):Int):=by rw[ao];omega
    have HC:Hid (aq ab 188 #[aj (I ⟨g,0,E⟩) n c,Y G ((m-i:Nat):Int),Y G (m:Int),Y G (j:Int),f] wr λe w'=>e=ac (az #[])/\Hid (∃A U V B,(RW w0 g base n c (A++U++V++B) w'/\U.length=i-j/\V.length=j/\A.length+(i-j)=m)/\P++a4++X++R=A++V++U++B)):=Aa (by
     obtain⟨A,U,V,B,⟨r,l1,y,l3⟩,x⟩:=HS.o;have H:U=U.take j++U.drop j:=(aD j U).symm;have s:(U.take j).length=j:=by rw[au];omega
     have t2:(U.drop j).length=i-j:=by rw[aH];omega
     generalize U.take j=U1 at H s;generalize U.drop j=U2 at H t2;subst H;refine(Hu w0 g base n c (m-i) m j A U1 U2 V B wr f (by simpa[al]using r) W O O s y).mono ?_;rintro e w' ⟨rfl,q⟩;refine⟨rfl,Aa ⟨A++V,U2,U1,B,⟨q.o,t2,s,by rw[ae];omega⟩,?_⟩⟩;rw[x];simp[al]);clear HS;go_wp2_with(go_at_call 188;go_must(refine HC.o.mono ?_);rintro e w6 ⟨rfl,h6⟩;refine ak ?_);refine Aa ?_;go_wp2;go_roundg (gk-1);case rel=>exact⟨i-j,j,by go_num,rfl,O,hj,O,S,O,h6⟩
    case measure=>omega
   ·have w5:G.wrap ((j:Int)-(i:Int))=((j-i:Nat):Int):=by rw[ao];omega
    obtain⟨k,l⟩:∃k:Nat,Hid (m+j-i=k):=⟨_,rfl⟩;have w6:G.wrap ((z:Int)-(i:Int))=(k:Int):=by rw[ao,<-l.o,<-v.o];omega
    have HC:Hid (aq ab 188 #[aj (I ⟨g,0,E⟩) n c,Y G ((m-i:Nat):Int),Y G (k:Int),Y G (i:Int),f] wr λe w'=>e=ac (az #[])/\Hid (∃A U V B,(RW w0 g base n c (A++U++V++B) w'/\U.length=i/\V.length=j-i/\A.length+i=m)/\P++a4++X++R=A++V++U++B)):=Aa (by
     obtain⟨A,U,V,B,⟨r,l1,y,l3⟩,x⟩:=HS.o;have L:V=V.take (j-i)++V.drop (j-i):=(aD (j-i) V).symm;have s:(V.take (j-i)).length=j-i:=by rw[au];omega
     have t2:(V.drop (j-i)).length=i:=by rw[aH];omega
     generalize V.take (j-i)=V1 at L s;generalize V.drop (j-i)=V2 at L t2;subst L;rw[<-l.o];refine(Hu w0 g base n c (m-i) (m+j-i) i A U V1 V2 B wr f (by simpa[al]using r) W O O l1 t2).mono ?_;rintro e w' ⟨rfl,q⟩;refine⟨rfl,Aa ⟨A,V2,V1,U++B,⟨by simpa[al]using q.o,t2,s,O⟩,?_⟩⟩;rw[x];simp[al]);have a1:¬(j:Int)<(i:Int):=O;clear HS;go_wp2_with(go_at_call 188;go_must(refine HC.o.mono ?_);rintro e w7 ⟨rfl,h7⟩;refine ak ?_);refine Aa ?_;go_wp2;go_roundg (gk-1);case rel=>exact⟨i,j-i,rfl,by go_num,hi,O,N,O,O,h7⟩
    case measure=>omega
theorem IG(x y:Int):aY (EV x y<0)=aY (x<y):=by
 unfold EV;apply decide_eq_decide.2;split
 ·constructor<;>intro _<;>omega
 ·split
  ·constructor<;>intro _<;>omega
  ·constructor<;>intro _<;>omega
theorem P5(x y:Mg)(w:ax):aq ab 65 #[x.val,y.val] w λe w'=>e=ac (Y G (EV x.1 y.1))/\aA w.1.size w w':=by have HC:=Aa (λ(W:ax)=>SY x.1 y.1 W);have a:aA w.1.size w ((w.alloc (bb #[Y G x.1,Y G x.2,am x.3,am x.4,Y G x.5] 52)).alloc (bb #[Y G y.1,Y G y.2,am y.3,am y.4,Y G y.5] 52)):=((aB _ _).alloc (ag _) _).alloc oS _;have b:=Aa a;clear a;simp only[Mg.val];go_enter func65,ntmps65;go_wp2_with(go_at_call 66;go_must(refine(HC.o _).mono ?_);rintro e w1 ⟨rfl,rfl⟩;refine ak ?_);refine Aa ?_;go_wp2;go_ret;exact⟨rfl,b.o⟩
abbrev De(l:List Mg):Prop:=l.Pairwise λa b=>a.1<=b.1
theorem Qo{g:List Mg}{x:Mg}(d:De g)(c:Nat)(h1:∀(k:Nat) y,g[k]?=I y->k<c->y.1<=x.1)(h2:∀(k:Nat) y,g[k]?=I y->c<=k->x.1<=y.1):De (g.take c++x::g.drop c)/\(g.take c++x::g.drop c).Perm (x::g):=by
 constructor
 ·unfold De;rw[aI,cy];have e:∀y∈g.drop c,x.1<=y.1:=λy a=>by obtain⟨k,hk,rfl⟩:=aN.1 a;rw[bT];exact h2 (c+k) _ (ad _) O
  have f:∀y∈g.take c,y.1<=x.1:=λy a=>by obtain⟨k,hk,rfl⟩:=aN.1 a;rw[au]at hk;rw[bU];exact h1 k _ (ad O) O
  refine⟨d.sublist (cI _ _),⟨e,d.sublist (cF _ _)⟩,λy a z b=>?_⟩;rcases bW.1 b with rfl|b
  ·exact f y a
  ·exact bI (f y a) (e z b)
 ·refine(cM).trans ?_;rw[aD]
theorem Dl{S:List Mg}(h:De S){k j:Nat}{x y:Mg}(hx:S[k]?=I x)(b:S[j]?=I y)(a:k<=j):x.1<=y.1:=by
 obtain⟨hk,rfl⟩:=aa.1 hx;obtain⟨hj,rfl⟩:=aa.1 b;rcases Nat.lt_or_eq_of_le a with h1|h1
 ·exact bF.1 h k j hk hj h1
 ·subst h1;exact bg _
theorem Xd(w0:ax)(g base n p a m b:Nat)(P j9 R:List Mg)(x:Mg)(w:ax)(h:RW w0 g base n p (P++x::(j9++R)) w)(hn:n<=100000)(ha:P.length=a)(hm:m=a+1)(hb:m+j9.length=b)(hY:De j9):aq ab 139 #[aj (I ⟨g,0,E⟩) n p,Y G (a:Int),Y G (m:Int),Y G (b:Int),br (bp 65) #[] #[]] w λe w'=>e=ac (az #[])/\Hid (∃Z,RW w0 g base n p (P++Z++R) w'/\De Z/\Z.Perm (x::j9)):=by
 have M:=h.2;simp only[ae,bK]at M;have a5:Hid ((P++x::(j9++R))[a]?=I x):=Aa (IJ _ _ _ ha);have a6:Hid (∀(k:Nat) y,j9[k]?=I y->(P++x::(j9++R))[m+k]?=I y):=Aa (λk y l=>by have hk:=(aa.1 l).1;rw[av O,show m+k-P.length=k+1 by omega,List.getElem?_cons_succ,aC hk];exact l);have a0:=Aa h;have HY:=Aa hY;have Q:=Aa hb;have HP:=Aa ha;have b6:b<=n:=O;have a9:m<=b:=O;have b3:a<b:=O;have wm:G.wrap ((m:Int)-(a:Int))=1:=by rw[ao];omega
 have D:=Aa hm;have b5:a<n:=O;clear h hY hb ha M hm;go_enter cz,cr;go_wp2;go_loopg[10,11] (b-m) (λgk vi vj wr=>∃i j:Nat,vi=Y G i/\vj=Y G j/\m<=i/\i<=j/\j<=b/\j-i<=gk/\Hid ((∀(k:Nat) y,j9[k]?=I y->m+k<i->y.1<x.1)/\(∀(k:Nat) y,j9[k]?=I y->j<=m+k->x.1<=y.1))/\Hid (RW w0 g base n p (P++x::(j9++R)) wr));case atStart=>exact⟨m,b,rfl,rfl,ag _,a9,ag _,ag _,Aa ⟨λk y _ hk=>O,λk y l hk=>by have:=(aa.1 l).1;have:=Q.o;omega⟩,a0⟩
 case round=>
  clear a0;obtain⟨i,j,rfl,rfl,b0,a8,a4,a7,HI,HW⟩:=hrel;by_cases c0:i<j
  ·obtain⟨q,Hq⟩:∃q:Nat,Hid ((i+j)/2=q):=⟨_,rfl⟩;have c4:((i:Int)+(j:Int))/2=(q:Int):=by have:=Hq.o;omega
   have c2:i<=q:=by have:=Hq.o;omega
   have c3:q<j:=by have:=Hq.o;omega
   have c5:q<n:=O;obtain⟨y,l⟩:∃y,j9[q-m]?=I y:=⟨_,ad (by have:=Q.o;omega)⟩;have H:=a6.o (q-m) y l;rw[show m+(q-m)=q by omega]at H;have d:Hid (∀V,aA wr.1.size wr V->((V.cell? ⟨g,q*5,E⟩=I (Y G y.1)/\V.cell? ⟨g,q*5+1,E⟩=I (Y G y.2)/\V.cell? ⟨g,q*5+2,E⟩=I (am y.3)/\V.cell? ⟨g,q*5+3,E⟩=I (am y.4)/\V.cell? ⟨g,q*5+4,E⟩=I (Y G y.5))/\(V.cell? ⟨g,a*5,E⟩=I (Y G x.1)/\V.cell? ⟨g,a*5+1,E⟩=I (Y G x.2)/\V.cell? ⟨g,a*5+2,E⟩=I (am x.3)/\V.cell? ⟨g,a*5+3,E⟩=I (am x.4)/\V.cell? ⟨g,a*5+4,E⟩=I (Y G x.5)))/\aA wr.1.size wr V):=Aa (λV hB=>⟨⟨(HW.o.below hB).at_ H,(HW.o.below hB).at_ a5.o⟩,hB⟩);obtain⟨z,Hz⟩:∃z,Hid (EV y.1 x.1=z):=⟨_,rfl⟩;have r:Hid (∀V:ax,aq ab 65 #[ct #[Y G y.1,Y G y.2,am y.3,am y.4,Y G y.5],ct #[Y G x.1,Y G x.2,am x.3,am x.4,Y G x.5]] V λe w'=>e=ac (Y G z)/\aA V.1.size V w'):=Aa (λV=>by rw[<-Hz.o];exact P5 y x V);have t:=IG y.1 x.1;rw[Hz.o]at t;obtain⟨⟨⟨d0,d1,d2,d3,d4⟩,e0,X,e2,e3,e4⟩,-⟩:=d.o wr (aB _ _);by_cases hc:y.1<x.1
   ·have hz:aY (z<0)=aE:=by rw[t];simpa using hc
    have HN:Hid (∀(k:Nat) y',j9[k]?=I y'->m+k<q+1->y'.1<x.1):=Aa (λk y' W hk=>by have:=Dl HY.o W l O;omega);clear l H t hc;go_wp2;go_region_held3(λV=>((V.cell? ⟨g,q*5,E⟩=I (Y G y.1)/\V.cell? ⟨g,q*5+1,E⟩=I (Y G y.2)/\V.cell? ⟨g,q*5+2,E⟩=I (am y.3)/\V.cell? ⟨g,q*5+3,E⟩=I (am y.4)/\V.cell? ⟨g,q*5+4,E⟩=I (Y G y.5))/\(V.cell? ⟨g,a*5,E⟩=I (Y G x.1)/\V.cell? ⟨g,a*5+1,E⟩=I (Y G x.2)/\V.cell? ⟨g,a*5+2,E⟩=I (am x.3)/\V.cell? ⟨g,a*5+3,E⟩=I (am x.4)/\V.cell? ⟨g,a*5+4,E⟩=I (Y G x.5)))/\aA wr.1.size wr V)
     ((refine d.o _ ?_;repeat(first|assumption|exact aB _ _|refine aS ?_)))
     ((go_at_call 65;refine(r.o _).mono ?_;rintro e w5 ⟨rfl,h5⟩;have U:=Ad (B:=wr.1.size) (w:=wr) (by repeat(first|assumption|exact aB _ _|refine aS ?_)) (by first|exact ag _|assumption) h5));all_goals
     have S:=Aa (HW.o.below U);clear h5 r d d0 d1 d2 d3 d4 e0 X e2 e3 e4 HW;go_wp2;go_roundg (gk-1);case rel=>exact⟨q+1,j,by go_num,rfl,O,O,a4,O,Aa ⟨HN.o,HI.o.2⟩,S⟩
     case measure=>omega
   ·have hz:aY (z<0)=ai:=by rw[t];simpa using hc
    have HN:Hid (∀(k:Nat) y',j9[k]?=I y'->q<=m+k->x.1<=y'.1):=Aa (λk y' W hk=>by have:=Dl HY.o l W O;omega);clear l H t hc;go_wp2;go_region_held3(λV=>((V.cell? ⟨g,q*5,E⟩=I (Y G y.1)/\V.cell? ⟨g,q*5+1,E⟩=I (Y G y.2)/\V.cell? ⟨g,q*5+2,E⟩=I (am y.3)/\V.cell? ⟨g,q*5+3,E⟩=I (am y.4)/\V.cell? ⟨g,q*5+4,E⟩=I (Y G y.5))/\(V.cell? ⟨g,a*5,E⟩=I (Y G x.1)/\V.cell? ⟨g,a*5+1,E⟩=I (Y G x.2)/\V.cell? ⟨g,a*5+2,E⟩=I (am x.3)/\V.cell? ⟨g,a*5+3,E⟩=I (am x.4)/\V.cell? ⟨g,a*5+4,E⟩=I (Y G x.5)))/\aA wr.1.size wr V)
     ((refine d.o _ ?_;repeat(first|assumption|exact aB _ _|refine aS ?_)))
     ((go_at_call 65;refine(r.o _).mono ?_;rintro e w5 ⟨rfl,h5⟩;have U:=Ad (B:=wr.1.size) (w:=wr) (by repeat(first|assumption|exact aB _ _|refine aS ?_)) (by first|exact ag _|assumption) h5));all_goals
     have S:=Aa (HW.o.below U);clear h5 r d d0 d1 d2 d3 d4 e0 X e2 e3 e4 HW;go_wp2;go_roundg (gk-1);case rel=>exact⟨i,q,rfl,rfl,O,O,O,O,Aa ⟨HI.o.1,HN.o⟩,S⟩
     case measure=>omega
  ·obtain rfl:i=j:=O;have L:Hid (De (j9.take (i-m)++x::j9.drop (i-m))/\(j9.take (i-m)++x::j9.drop (i-m)).Perm (x::j9)):=Aa (Qo HY.o (i-m) (λk y l hk=>cB (HI.o.1 k y l O)) (λk y l hk=>HI.o.2 k y l O));have wi:G.wrap ((i:Int)-1)=((i-1:Nat):Int):=by rw[ao];have:=D.o;omega
   have a3:a<=i-1:=by have:=D.o;omega
   have a1:Hid (RW w0 g base n p (P++(j9.take (a-a)++x::j9.drop (a-a))++R) wr):=Aa (by rw[bJ];simpa using HW.o);obtain⟨N,u⟩:∃N:Nat,Hid (i-1=N):=⟨_,rfl⟩;rw[u.o]at wi a3;have b7:N<b:=by have:=u.o;omega
   have a2:Hid (i-m=N-a):=Aa (by have:=u.o;have:=D.o;omega);rw[a2.o]at L;clear HI HW a7 b0 a8 a4 u;go_wp2;go_loopw[13] (λv wr=>∃k:Nat,v=Y G k/\a<=k/\k<=N/\Hid (RW w0 g base n p (P++(j9.take (k-a)++x::j9.drop (k-a))++R) wr)) (λv _=>N-(bw v).toNat);case atStart=>exact⟨a,rfl,ag _,a3,a1⟩
   case round=>
    clear a1;obtain⟨k,rfl,b4,b8,HW⟩:=hrel;by_cases b2:k<N
    ·obtain⟨y,l⟩:∃y,j9[k-a]?=I y:=⟨_,ad (by have:=Q.o;have:=D.o;omega)⟩;obtain⟨c,s⟩:∃c:Nat,Hid (k+1=c):=⟨_,rfl⟩;have wk:G.wrap ((k:Int)+1)=(c:Int):=by rw[ao,<-s.o];omega
     have b1:c<n:=by have:=s.o;omega
     have b9:k<n:=O;have c1:k<c:=by have:=s.o;omega
     have eD:j9.drop (k-a)=y::j9.drop (k-a+1):=by obtain⟨h1,rfl⟩:=aa.1 l;exact aT h1
     have eT:j9.take (k-a+1)=j9.take (k-a)++[y]:=by rw[aW,l];rfl
     obtain⟨r1,r2,r3⟩:=IQ (P++j9.take (k-a)) [] (j9.drop (k-a+1)++R) x y (i:=k) (j:=c) (by have h1:=HP.o;have h2:=(aa.1 l).1;rw[ae,au];omega) (by have h1:=HP.o;have h2:=(aa.1 l).1;have h3:=s.o;rw[ae,au,cP];omega);have X:P++(j9.take (k-a)++x::j9.drop (k-a))++R=(P++j9.take (k-a))++x::([]++y::(j9.drop (k-a+1)++R)):=by rw[eD];simp
     have e2:P++(j9.take (k-a+1)++x::j9.drop (k-a+1))++R=(P++j9.take (k-a))++y::([]++x::(j9.drop (k-a+1)++R)):=by rw[eT];simp
     have A:=HW.o;rw[X]at A;have HF:Hid (RW w0 g base n p (P++(j9.take (k+1-a)++x::j9.drop (k+1-a))++R) (CZ (CZ wr g (k*5) y) g (c*5) x).drew):=Aa (by have:=(A.swap r1 r2).drew;rw[r3,<-e2]at this;rw[show k+1-a=k-a+1 by omega];exact this);obtain⟨d0,d1,d2,d3,d4⟩:=A.drew.at_ r1;obtain⟨e0,X,e2,e3,e4⟩:=A.drew.at_ r2;obtain⟨p0,p1,p2,p3,p4⟩:=A.at_ r1;obtain⟨q0,q1,q2,q3,q4⟩:=A.at_ r2;have fr:=A.drew.free;have f:=A.free;have f0:wr.drew.frozen? ⟨g,k*5,E⟩=ai:=fr _;have g0:wr.drew.frozen? ⟨g,c*5,E⟩=ai:=fr _;have s0:wr.frozen? ⟨g,k*5,E⟩=ai:=f _;have t0:wr.frozen? ⟨g,c*5,E⟩=ai:=f _;have f1:wr.drew.frozen? ⟨g,k*5+1,E⟩=ai:=fr _;have g1:wr.drew.frozen? ⟨g,c*5+1,E⟩=ai:=fr _;have s1:wr.frozen? ⟨g,k*5+1,E⟩=ai:=f _;have t1:wr.frozen? ⟨g,c*5+1,E⟩=ai:=f _;have f2:wr.drew.frozen? ⟨g,k*5+2,E⟩=ai:=fr _;have g2:wr.drew.frozen? ⟨g,c*5+2,E⟩=ai:=fr _;have s2:wr.frozen? ⟨g,k*5+2,E⟩=ai:=f _;have t2:wr.frozen? ⟨g,c*5+2,E⟩=ai:=f _;have f3:wr.drew.frozen? ⟨g,k*5+3,E⟩=ai:=fr _;have g3:wr.drew.frozen? ⟨g,c*5+3,E⟩=ai:=fr _;have s3:wr.frozen? ⟨g,k*5+3,E⟩=ai:=f _;have t3:wr.frozen? ⟨g,c*5+3,E⟩=ai:=f _;have f4:wr.drew.frozen? ⟨g,k*5+4,E⟩=ai:=fr _;have g4:wr.drew.frozen? ⟨g,c*5+4,E⟩=ai:=fr _;have s4:wr.frozen? ⟨g,k*5+4,E⟩=ai:=f _;have t4:wr.frozen? ⟨g,c*5+4,E⟩=ai:=f _;have h4:¬k*5=c*5:=O;have c6:¬c*5=k*5:=O;have h6:¬k*5=c*5+1:=O;have c7:¬c*5+1=k*5:=O;have h7:¬k*5=c*5+2:=O;have c8:¬c*5+2=k*5:=O;have h8:¬k*5=c*5+3:=O;have c9:¬c*5+3=k*5:=O;have h9:¬k*5=c*5+4:=O;have d5:¬c*5+4=k*5:=O;have i0:¬k*5+1=c*5:=O;have d6:¬c*5=k*5+1:=O;have i1:¬k*5+1=c*5+1:=O;have d7:¬c*5+1=k*5+1:=O;have i2:¬k*5+1=c*5+2:=O;have d8:¬c*5+2=k*5+1:=O;have i3:¬k*5+1=c*5+3:=O;have d9:¬c*5+3=k*5+1:=O;have i4:¬k*5+1=c*5+4:=O;have e5:¬c*5+4=k*5+1:=O;have i5:¬k*5+2=c*5:=O;have e6:¬c*5=k*5+2:=O;have i6:¬k*5+2=c*5+1:=O;have e7:¬c*5+1=k*5+2:=O;have i7:¬k*5+2=c*5+2:=O;have e8:¬c*5+2=k*5+2:=O;have i8:¬k*5+2=c*5+3:=O;have e9:¬c*5+3=k*5+2:=O;have n24:¬k*5+2=c*5+4:=O;have f5:¬c*5+4=k*5+2:=O;have i9:¬k*5+3=c*5:=O;have f6:¬c*5=k*5+3:=O;have j0:¬k*5+3=c*5+1:=O;have f7:¬c*5+1=k*5+3:=O;have j1:¬k*5+3=c*5+2:=O;have f8:¬c*5+2=k*5+3:=O;have j2:¬k*5+3=c*5+3:=O;have f9:¬c*5+3=k*5+3:=O;have j3:¬k*5+3=c*5+4:=O;have g5:¬c*5+4=k*5+3:=O;have j4:¬k*5+4=c*5:=O;have g6:¬c*5=k*5+4:=O;have j5:¬k*5+4=c*5+1:=O;have g7:¬c*5+1=k*5+4:=O;have j6:¬k*5+4=c*5+2:=O;have g8:¬c*5+2=k*5+4:=O;have j7:¬k*5+4=c*5+3:=O;have g9:¬c*5+3=k*5+4:=O;have j8:¬k*5+4=c*5+4:=O;have h0:¬c*5+4=k*5+4:=O;clear fr f;clear A l eD eT r1 r2 r3 X e2 HW;go_wp2;go_region;all_goals
      go_wp2;go_roundw;case rel=>refine⟨k+1,by have:=s.o;go_num,O,O,?_⟩;unfold CZ at HF;exact HF
      case measure=>have:=s.o;simp[bw];omega
    ·obtain rfl:k=N:=O;go_wp2;go_returns;exact⟨rfl,Aa ⟨_,HW.o,L.o⟩⟩
theorem Lf(T:List Mg){i j:Nat}(h:i≠j)(x y:Mg):NS T j i y x=NS T i j x y:=by unfold NS;rw[List.set_comm _ _ h]
theorem UR(w0:ax)(g base n r a m b:Nat)(P X R:List Mg)(x:Mg)(w:ax)(h:RW w0 g base n r (P++(X++x::R)) w)(hn:n<=100000)(ha:P.length=a)(hm:a+X.length=m)(hb:b=m+1)(h2:2<=X.length)(hX:De X):aq ab 139 #[aj (I ⟨g,0,E⟩) n r,Y G (a:Int),Y G (m:Int),Y G (b:Int),br (bp 65) #[] #[]] w λe w'=>e=ac (az #[])/\Hid (∃Z,RW w0 g base n r (P++Z++R) w'/\De Z/\Z.Perm (x::X)):=by
 have H:=h.2;simp only[ae,bK]at H;have a4:Hid ((P++(X++x::R))[m]?=I x):=Aa (by rw[<-al];exact IJ _ _ _ (by rw[ae];omega));have a5:Hid (∀(k:Nat) y,X[k]?=I y->(P++(X++x::R))[a+k]?=I y):=Aa (λk y p=>by have hk:=(aa.1 p).1;rw[av O,show a+k-P.length=k by omega,aC hk];exact p);have a0:=Aa h;have HX:=Aa hX;have t:=Aa hm;have HP:=Aa ha;have b2:b<=n:=O;have b8:m<n:=O;have a7:a<=m:=O;have wm:G.wrap ((m:Int)-(a:Int))=((m-a:Nat):Int):=by rw[ao];omega
 have wb:G.wrap ((b:Int)-(m:Int))=1:=by rw[ao];omega
 have en:(((m-a:Nat):Int)==1)=ai:=by rw[beq_eq_false_iff_ne];omega
 obtain⟨ma,a6⟩:∃ma:Nat,Hid (m-a=ma):=⟨_,rfl⟩;rw[a6.o]at wm en;clear h hX hm ha H h2 hb;go_enter cz,cr;go_wp2;go_loopg[14,15] (m-a) (λgk vi vj wr=>∃i j:Nat,vi=Y G i/\vj=Y G j/\a<=i/\i<=j/\j<=m/\j-i<=gk/\Hid ((∀(k:Nat) y,X[k]?=I y->a+k<i->y.1<=x.1)/\(∀(k:Nat) y,X[k]?=I y->j<=a+k->x.1<y.1))/\Hid (RW w0 g base n r (P++(X++x::R)) wr));case atStart=>exact⟨a,m,rfl,rfl,ag _,a7,ag _,ag _,Aa ⟨λk y _ hk=>O,λk y p hk=>by have:=(aa.1 p).1;have:=t.o;omega⟩,a0⟩
 case round=>
  clear a0;obtain⟨i,j,rfl,rfl,b7,b3,a2,a8,W,HW⟩:=hrel;by_cases b6:i<j
  ·obtain⟨q,Hq⟩:∃q:Nat,Hid ((i+j)/2=q):=⟨_,rfl⟩;have c2:((i:Int)+(j:Int))/2=(q:Int):=by have:=Hq.o;omega
   have c0:i<=q:=by have:=Hq.o;omega
   have c1:q<j:=by have:=Hq.o;omega
   have c3:q<n:=O;obtain⟨y,p⟩:∃y,X[q-a]?=I y:=⟨_,ad (by have:=t.o;omega)⟩;have D:=a5.o (q-a) y p;rw[show a+(q-a)=q by omega]at D;have d:Hid (∀V,aA wr.1.size wr V->((V.cell? ⟨g,m*5,E⟩=I (Y G x.1)/\V.cell? ⟨g,m*5+1,E⟩=I (Y G x.2)/\V.cell? ⟨g,m*5+2,E⟩=I (am x.3)/\V.cell? ⟨g,m*5+3,E⟩=I (am x.4)/\V.cell? ⟨g,m*5+4,E⟩=I (Y G x.5))/\(V.cell? ⟨g,q*5,E⟩=I (Y G y.1)/\V.cell? ⟨g,q*5+1,E⟩=I (Y G y.2)/\V.cell? ⟨g,q*5+2,E⟩=I (am y.3)/\V.cell? ⟨g,q*5+3,E⟩=I (am y.4)/\V.cell? ⟨g,q*5+4,E⟩=I (Y G y.5)))/\aA wr.1.size wr V):=Aa (λV hB=>⟨⟨(HW.o.below hB).at_ a4.o,(HW.o.below hB).at_ D⟩,hB⟩);obtain⟨z,Hz⟩:∃z,Hid (EV x.1 y.1=z):=⟨_,rfl⟩;have s:Hid (∀V:ax,aq ab 65 #[ct #[Y G x.1,Y G x.2,am x.3,am x.4,Y G x.5],ct #[Y G y.1,Y G y.2,am y.3,am y.4,Y G y.5]] V λe w'=>e=ac (Y G z)/\aA V.1.size V w'):=Aa (λV=>by rw[<-Hz.o];exact P5 x y V);have u:=IG x.1 y.1;rw[Hz.o]at u;obtain⟨⟨⟨d0,d1,d2,d3,d4⟩,e0,Q,S,e3,e4⟩,-⟩:=d.o wr (aB _ _);by_cases hc:x.1<y.1
   ·have hz:aY (z<0)=aE:=by rw[u];simpa using hc
    have HN:Hid (∀(k:Nat) y',X[k]?=I y'->q<=a+k->x.1<y'.1):=Aa (λk y' N hk=>by have:=Dl HX.o p N O;omega);clear p D u hc;go_wp2;go_region_held3(λV=>((V.cell? ⟨g,m*5,E⟩=I (Y G x.1)/\V.cell? ⟨g,m*5+1,E⟩=I (Y G x.2)/\V.cell? ⟨g,m*5+2,E⟩=I (am x.3)/\V.cell? ⟨g,m*5+3,E⟩=I (am x.4)/\V.cell? ⟨g,m*5+4,E⟩=I (Y G x.5))/\(V.cell? ⟨g,q*5,E⟩=I (Y G y.1)/\V.cell? ⟨g,q*5+1,E⟩=I (Y G y.2)/\V.cell? ⟨g,q*5+2,E⟩=I (am y.3)/\V.cell? ⟨g,q*5+3,E⟩=I (am y.4)/\V.cell? ⟨g,q*5+4,E⟩=I (Y G y.5)))/\aA wr.1.size wr V)
     ((refine d.o _ ?_;repeat(first|assumption|exact aB _ _|refine aS ?_)))
     ((go_at_call 65;refine(s.o _).mono ?_;rintro e w5 ⟨rfl,h5⟩;have M:=Ad (B:=wr.1.size) (w:=wr) (by repeat(first|assumption|exact aB _ _|refine aS ?_)) (by first|exact ag _|assumption) h5));all_goals
     have L:=Aa (HW.o.below M);clear h5 s d d0 d1 d2 d3 d4 e0 Q S e3 e4 HW;go_wp2;go_roundg (gk-1);case rel=>exact⟨i,q,rfl,rfl,O,O,O,O,Aa ⟨W.o.1,HN.o⟩,L⟩
     case measure=>omega
   ·have hz:aY (z<0)=ai:=by rw[u];simpa using hc
    have HN:Hid (∀(k:Nat) y',X[k]?=I y'->a+k<q+1->y'.1<=x.1):=Aa (λk y' N hk=>by have:=Dl HX.o N p O;omega);clear p D u hc;go_wp2;go_region_held3(λV=>((V.cell? ⟨g,m*5,E⟩=I (Y G x.1)/\V.cell? ⟨g,m*5+1,E⟩=I (Y G x.2)/\V.cell? ⟨g,m*5+2,E⟩=I (am x.3)/\V.cell? ⟨g,m*5+3,E⟩=I (am x.4)/\V.cell? ⟨g,m*5+4,E⟩=I (Y G x.5))/\(V.cell? ⟨g,q*5,E⟩=I (Y G y.1)/\V.cell? ⟨g,q*5+1,E⟩=I (Y G y.2)/\V.cell? ⟨g,q*5+2,E⟩=I (am y.3)/\V.cell? ⟨g,q*5+3,E⟩=I (am y.4)/\V.cell? ⟨g,q*5+4,E⟩=I (Y G y.5)))/\aA wr.1.size wr V)
     ((refine d.o _ ?_;repeat(first|assumption|exact aB _ _|refine aS ?_)))
     ((go_at_call 65;refine(s.o _).mono ?_;rintro e w5 ⟨rfl,h5⟩;have M:=Ad (B:=wr.1.size) (w:=wr) (by repeat(first|assumption|exact aB _ _|refine aS ?_)) (by first|exact ag _|assumption) h5));all_goals
     have L:=Aa (HW.o.below M);clear h5 s d d0 d1 d2 d3 d4 e0 Q S e3 e4 HW;go_wp2;go_roundg (gk-1);case rel=>exact⟨q+1,j,by go_num,rfl,O,O,a2,O,Aa ⟨HN.o,W.o.2⟩,L⟩
     case measure=>omega
  ·obtain rfl:i=j:=O;have U:Hid (De (X.take (i-a)++x::X.drop (i-a))/\(X.take (i-a)++x::X.drop (i-a)).Perm (x::X)):=Aa (Qo HX.o (i-a) (λk y p hk=>W.o.1 k y p O) (λk y p hk=>cB (W.o.2 k y p O)));have a1:Hid (RW w0 g base n r (P++(X.take (m-a)++x::X.drop (m-a))++R) wr):=Aa (by rw[aK (by have:=t.o;omega),bx (by have:=t.o;omega)];simpa using HW.o);clear W HW a8;go_wp2;go_loopw[17] (λv wr=>∃k:Nat,v=Y G k/\i<=k/\k<=m/\Hid (RW w0 g base n r (P++(X.take (k-a)++x::X.drop (k-a))++R) wr)) (λv _=>(bw v).toNat-i);case atStart=>exact⟨m,rfl,a2,ag _,a1⟩
   case round=>
    clear a1;obtain⟨k,rfl,b1,b4,HW⟩:=hrel;by_cases b0:i<k
    ·obtain⟨c,l⟩:∃c:Nat,Hid (c+1=k):=⟨k-1,Aa O⟩;obtain⟨y,p⟩:∃y,X[c-a]?=I y:=⟨_,ad (by have:=t.o;have:=l.o;omega)⟩;have wk:G.wrap ((k:Int)-1)=(c:Int):=by have:=l.o;rw[ao];omega
     have a9:c<n:=by have:=l.o;omega
     have b5:k<n:=O;have b9:c<k:=by have:=l.o;omega
     have a3:k-a=c-a+1:=by have:=l.o;omega
     have eD:X.drop (c-a)=y::X.drop (c-a+1):=by obtain⟨h1,rfl⟩:=aa.1 p;exact aT h1
     have eT:X.take (c-a+1)=X.take (c-a)++[y]:=by rw[aW,p];rfl
     obtain⟨r1,r2,r3⟩:=IQ (P++X.take (c-a)) [] (X.drop (c-a+1)++R) y x (i:=c) (j:=k) (by have h1:=HP.o;have h2:=(aa.1 p).1;have h3:=l.o;rw[ae,au];omega) (by have h1:=HP.o;have h2:=(aa.1 p).1;have h3:=l.o;rw[ae,au,cP];omega);have Q:P++(X.take (k-a)++x::X.drop (k-a))++R=(P++X.take (c-a))++y::([]++x::(X.drop (c-a+1)++R)):=by rw[a3,eT];simp
     have S:P++(X.take (c-a)++x::X.drop (c-a))++R=(P++X.take (c-a))++x::([]++y::(X.drop (c-a+1)++R)):=by rw[eD];simp
     have A:=HW.o;rw[Q]at A;have HF:Hid (RW w0 g base n r (P++(X.take (c-a)++x::X.drop (c-a))++R) (CZ (CZ wr g (k*5) y) g (c*5) x).drew):=Aa (by have:=(A.swap r2 r1).drew;rw[Lf _ O,r3,<-S]at this;exact this);obtain⟨d0,d1,d2,d3,d4⟩:=A.drew.at_ r2;obtain⟨e0,Q,S,e3,e4⟩:=A.drew.at_ r1;obtain⟨p0,p1,p2,p3,p4⟩:=A.at_ r2;obtain⟨q0,q1,q2,q3,q4⟩:=A.at_ r1;have fr:=A.drew.free;have f:=A.free;have f0:wr.drew.frozen? ⟨g,k*5,E⟩=ai:=fr _;have g0:wr.drew.frozen? ⟨g,c*5,E⟩=ai:=fr _;have s0:wr.frozen? ⟨g,k*5,E⟩=ai:=f _;have t0:wr.frozen? ⟨g,c*5,E⟩=ai:=f _;have f1:wr.drew.frozen? ⟨g,k*5+1,E⟩=ai:=fr _;have g1:wr.drew.frozen? ⟨g,c*5+1,E⟩=ai:=fr _;have s1:wr.frozen? ⟨g,k*5+1,E⟩=ai:=f _;have t1:wr.frozen? ⟨g,c*5+1,E⟩=ai:=f _;have f2:wr.drew.frozen? ⟨g,k*5+2,E⟩=ai:=fr _;have g2:wr.drew.frozen? ⟨g,c*5+2,E⟩=ai:=fr _;have s2:wr.frozen? ⟨g,k*5+2,E⟩=ai:=f _;have t2:wr.frozen? ⟨g,c*5+2,E⟩=ai:=f _;have f3:wr.drew.frozen? ⟨g,k*5+3,E⟩=ai:=fr _;have g3:wr.drew.frozen? ⟨g,c*5+3,E⟩=ai:=fr _;have s3:wr.frozen? ⟨g,k*5+3,E⟩=ai:=f _;have t3:wr.frozen? ⟨g,c*5+3,E⟩=ai:=f _;have f4:wr.drew.frozen? ⟨g,k*5+4,E⟩=ai:=fr _;have g4:wr.drew.frozen? ⟨g,c*5+4,E⟩=ai:=fr _;have s4:wr.frozen? ⟨g,k*5+4,E⟩=ai:=f _;have t4:wr.frozen? ⟨g,c*5+4,E⟩=ai:=f _;have g9:¬k*5=c*5:=O;have c4:¬c*5=k*5:=O;have h0:¬k*5=c*5+1:=O;have c5:¬c*5+1=k*5:=O;have h4:¬k*5=c*5+2:=O;have c6:¬c*5+2=k*5:=O;have h6:¬k*5=c*5+3:=O;have c7:¬c*5+3=k*5:=O;have h7:¬k*5=c*5+4:=O;have c8:¬c*5+4=k*5:=O;have h8:¬k*5+1=c*5:=O;have c9:¬c*5=k*5+1:=O;have h9:¬k*5+1=c*5+1:=O;have d5:¬c*5+1=k*5+1:=O;have i0:¬k*5+1=c*5+2:=O;have d6:¬c*5+2=k*5+1:=O;have i1:¬k*5+1=c*5+3:=O;have d7:¬c*5+3=k*5+1:=O;have i2:¬k*5+1=c*5+4:=O;have d8:¬c*5+4=k*5+1:=O;have i3:¬k*5+2=c*5:=O;have d9:¬c*5=k*5+2:=O;have i4:¬k*5+2=c*5+1:=O;have e5:¬c*5+1=k*5+2:=O;have i5:¬k*5+2=c*5+2:=O;have e6:¬c*5+2=k*5+2:=O;have i6:¬k*5+2=c*5+3:=O;have e7:¬c*5+3=k*5+2:=O;have n24:¬k*5+2=c*5+4:=O;have e8:¬c*5+4=k*5+2:=O;have i7:¬k*5+3=c*5:=O;have e9:¬c*5=k*5+3:=O;have i8:¬k*5+3=c*5+1:=O;have f5:¬c*5+1=k*5+3:=O;have i9:¬k*5+3=c*5+2:=O;have f6:¬c*5+2=k*5+3:=O;have j0:¬k*5+3=c*5+3:=O;have f7:¬c*5+3=k*5+3:=O;have j1:¬k*5+3=c*5+4:=O;have f8:¬c*5+4=k*5+3:=O;have j2:¬k*5+4=c*5:=O;have f9:¬c*5=k*5+4:=O;have j3:¬k*5+4=c*5+1:=O;have g5:¬c*5+1=k*5+4:=O;have j4:¬k*5+4=c*5+2:=O;have g6:¬c*5+2=k*5+4:=O;have j5:¬k*5+4=c*5+3:=O;have g7:¬c*5+3=k*5+4:=O;have j6:¬k*5+4=c*5+4:=O;have g8:¬c*5+4=k*5+4:=O;clear fr f;clear A p eD eT r1 r2 r3 Q S HW a3;go_wp2;go_region;all_goals
      go_wp2;go_roundw;case rel=>refine⟨c,by first|rfl|go_num,by have:=l.o;omega,by have:=l.o;omega,?_⟩;unfold CZ at HF;exact HF
      case measure=>have:=l.o;simp[bw];omega
    ·obtain rfl:i=k:=O;go_wp2;go_returns;exact⟨rfl,Aa ⟨_,HW.o,U.o⟩⟩
def IU(w0:ax)(g base n a:Nat)(P X b R:List Mg)(w':ax):Prop:=∃Z,RW w0 g base n a (P++(Z++R)) w'/\De Z/\Z.Perm (X++b)
theorem Xb{b d e c Z1 Z2:List Mg}(j:De (b++d))(k:De (e++c))(h1:∀x∈b,∀y∈c,x.1<=y.1)(h2:∀x∈e,∀y∈d,x.1<=y.1)(l:De Z1)(i:Z1.Perm (b++e))(m:De Z2)(h:Z2.Perm (d++c)):De (Z1++Z2)/\(Z1++Z2).Perm ((b++d)++(e++c)):=by
 obtain⟨-,-,f⟩:=aI.1 j;obtain⟨-,-,g⟩:=aI.1 k;constructor
 ·refine aI.2 ⟨l,m,λx hx y a=>?_⟩;rcases aM.1 (i.mem_iff.1 hx)with hx|hx
  ·rcases aM.1 (h.mem_iff.1 a)with a|a
   ·exact f x hx y a
   ·exact h1 x hx y a
  ·rcases aM.1 (h.mem_iff.1 a)with a|a
   ·exact h2 x hx y a
   ·exact g x hx y a
 ·refine(i.append h).trans ?_;rw[al,al];refine bh b ?_;rw[<-al,<-al];exact dd c List.perm_append_comm
structure Y7(X c:List Mg)(a m b mid s e:Nat):Prop where
 asl:a<=s
 sm:s<=m
 me:m<=e
 eb:e<=b
 mid:s+(e-m)=mid
 le:∀x∈X.take (s-a),∀y∈c.drop (e-m),x.1<=y.1
 lt:∀y∈c.take (e-m),∀x∈X.drop (s-a),y.1<=x.1
theorem Xa{X D:List Mg}(v:De X)(w:De D){a m b mid s e lo q:Nat}(hm:a+X.length=m)(A:m+D.length=b)(z:(a+b)/2=mid)(p:(mid<m/\lo=mid+m-b/\q=mid)\/(m<=mid/\lo=a/\q=m))(hs:lo<=s/\s<=q)(B:mid+m-s=e)(h1:∀c x y,lo<=c->c<s->X[c-a]?=I x->D[mid+m-1-c-m]?=I y->x.1<=y.1)(h2:∀c x y,s<=c->c<q->X[c-a]?=I x->D[mid+m-1-c-m]?=I y->y.1<x.1):Y7 X D a m b mid s e:=by
 have asl:a<=s:=by rcases p with⟨d,f,g⟩|⟨d,f,g⟩<;>omega
 have sm:s<=m:=by rcases p with⟨d,f,g⟩|⟨d,f,g⟩<;>omega
 have me:m<=e:=by rcases p with⟨d,f,g⟩|⟨d,f,g⟩<;>omega
 have eb:e<=b:=by rcases p with⟨d,f,g⟩|⟨d,f,g⟩<;>omega
 refine⟨asl,sm,me,eb,by rcases p with⟨d,f,g⟩|⟨d,f,g⟩<;>omega,λx hx y u=>?_,λy u x hx=>?_⟩
 ·obtain⟨i,n,rfl⟩:=aN.1 hx;obtain⟨j,o,rfl⟩:=aN.1 u;rw[au]at n;rw[aH]at o;rw[bU,bT];have l:lo<s:=by rcases p with⟨d,f,g⟩|⟨d,f,g⟩<;>omega
  obtain⟨x',h⟩:∃x',X[s-1-a]?=I x':=⟨_,ad O⟩;obtain⟨y',k⟩:∃y',D[e-m]?=I y':=⟨_,ad O⟩;have g1:=Dl v (ad (show i<X.length by omega)) h O;have r:=Dl w k (ad (show e-m+j<D.length by omega)) O;have t:=h1 (s-1) x' y' O O h (by rw[show mid+m-1-(s-1)-m=e-m by omega];exact k);exact bI g1 (bI t r)
 ·obtain⟨i,n,rfl⟩:=aN.1 hx;obtain⟨j,o,rfl⟩:=aN.1 u;rw[aH]at n;rw[au]at o;rw[bU,bT];have l:s<q:=by rcases p with⟨d,f,g⟩|⟨d,f,g⟩<;>omega
  obtain⟨x',h⟩:∃x',X[s-a]?=I x':=⟨_,ad O⟩;obtain⟨y',k⟩:∃y',D[e-1-m]?=I y':=⟨_,ad O⟩;have g1:=Dl v h (ad (show s-a+i<X.length by omega)) O;have r:=Dl w (ad (show j<D.length by omega)) k O;have t:=h2 s x' y' (ag _) l h (by rw[show mid+m-1-s-m=e-1-m by omega];exact k);exact bI r (bI (cB t) g1)
def Vu(w0:ax)(g base n c N:Nat):Prop:=∀(P X d R:List Mg) (a m b:Nat) (w:ax),X.length+d.length<N->P.length=a->a+X.length=m->m+d.length=b->0<X.length->0<d.length->De X->De d->RW w0 g base n c (P++(X++(d++R))) w->aq ab 139 #[aj (I ⟨g,0,E⟩) n c,Y G (a:Int),Y G (m:Int),Y G (b:Int),br (bp 65) #[] #[]] w λe w'=>e=ac (az #[])/\Hid (IU w0 g base n c P X d R w')
structure ZH(w0:ax)(g base n c:Nat)(P d f h i R:List Mg)(a m b mid s e:Nat)(wr:ax):Prop where
 rot:s<m->m<e->aq ab 163 #[aj (I ⟨g,0,E⟩) n c,Y G (s:Int),Y G (m:Int),Y G (e:Int),br (bp 65) #[] #[]] wr λj w'=>j=ac (az #[])/\Hid (RW w0 g base n c (P++(d++(h++(f++(i++R))))) w')
 no:¬(s<m/\m<e)->RW w0 g base n c (P++(d++(h++(f++(i++R))))) wr
 one:∀w1,RW w0 g base n c (P++(d++(h++(f++(i++R))))) w1->a<s->s<mid->aq ab 139 #[aj (I ⟨g,0,E⟩) n c,Y G (a:Int),Y G (s:Int),Y G (mid:Int),br (bp 65) #[] #[]] w1 λj w'=>j=ac (az #[])/\Hid (IU w0 g base n c P d h (f++(i++R)) w')
 one0:∀w1,RW w0 g base n c (P++(d++(h++(f++(i++R))))) w1->¬(a<s/\s<mid)->IU w0 g base n c P d h (f++(i++R)) w1
 two:∀w1,IU w0 g base n c P d h (f++(i++R)) w1->mid<e->e<b->aq ab 139 #[aj (I ⟨g,0,E⟩) n c,Y G (mid:Int),Y G (e:Int),Y G (b:Int),br (bp 65) #[] #[]] w1 λj w'=>j=ac (az #[])/\Hid (IU w0 g base n c P (d++f) (h++i) R w')
 two0:∀w1,IU w0 g base n c P d h (f++(i++R)) w1->¬(mid<e/\e<b)->IU w0 g base n c P (d++f) (h++i) R w1
theorem US{w0:ax}{g base n c:Nat}{P X a0 R:List Mg}{a m b mid s e:Nat}{wr:ax}(L:n<=100000)(h:RW w0 g base n c (P++(X++(a0++R))) wr)(hH:Vu w0 g base n c (X.length+a0.length))(v:De X)(w:De a0)(D:P.length=a)(hm:a+X.length=m)(hb:m+a0.length=b)(h2:2<=X.length/\2<=a0.length)(x:(a+b)/2=mid)(hc:Y7 X a0 a m b mid s e):ZH w0 g base n c P (X.take (s-a)) (X.drop (s-a)) (a0.take (e-m)) (a0.drop (e-m)) R a m b mid s e wr:=by
 obtain⟨asl,sm,me,eb,H,t,u⟩:=hc;have l1:(X.take (s-a)).length=s-a:=by rw[au];omega
 have l2:(X.drop (s-a)).length=m-s:=by rw[aH];omega
 have l3:(a0.take (e-m)).length=e-m:=by rw[au];omega
 have l4:(a0.drop (e-m)).length=b-e:=by rw[aH];omega
 have A:X=X.take (s-a)++X.drop (s-a):=(aD _ _).symm;have B:a0=a0.take (e-m)++a0.drop (e-m):=(aD _ _).symm;generalize X.take (s-a)=A1 at*;generalize X.drop (s-a)=A2 at*;generalize a0.take (e-m)=B1 at*;generalize a0.drop (e-m)=B2 at*;subst A B;have l:=aI.1 v;have p:=aI.1 w;have d:∀Z1 Z2 w',De Z1->Z1.Perm (A1++B1)->De Z2->Z2.Perm (A2++B2)->RW w0 g base n c (P++(Z1++(Z2++R))) w'->IU w0 g base n c P (A1++A2) (B1++B2) R w':=λZ1 Z2 w' U Q V S r=>by obtain⟨f1,f2⟩:=Xb v w t u U Q V S;exact⟨Z1++Z2,by simpa[al]using r,f1,f2⟩
 refine⟨λf y=>?_,λM=>?_,λw1 r f y=>?_,λw1 r q=>?_,λw1 r f y=>?_,λw1 r q=>?_⟩
 ·have:=Yq w0 g base n c s m e (P++A1) A2 B1 (B2++R) wr (br (bp 65) #[] #[]) (by simpa[al]using h) L (by rw[ae];omega) O O O O;refine this.mono ?_;rintro z w' ⟨rfl,r⟩;exact⟨rfl,Aa (by simpa[al]using r.o)⟩
 ·have h':RW w0 g base n c (P++(A1++(A2++(B1++(B2++R))))) wr:=by simpa[al]using h
  by_cases f:s<m
  ·have:B1=[]:=aP.1 O;subst this;simpa using h'
  ·have:A2=[]:=aP.1 O;subst this;simpa using h'
 ·refine hH P A1 B1 (A2++(B2++R)) a s mid w1 ?_ D O O O O l.1 p.1 r;simp only[ae]at h2⊢;omega
 ·by_cases f:a<s
  ·have:B1=[]:=aP.1 O;subst this;exact⟨A1,by simpa using r,l.1,oS⟩
  ·have:A1=[]:=aP.1 O;subst this;exact⟨B1,by simpa using r,p.1,oS⟩
 ·obtain⟨Z1,j,k,i⟩:=r;have N:=i.length_eq;rw[ae]at N;refine(hH (P++Z1) A2 B2 R mid e b w1 ?_ (by rw[ae];omega) O O O O l.2.1 p.2.1 (by simpa[al]using j)).mono ?_
  ·simp only[ae]at h2⊢;omega
  ·rintro z w' ⟨rfl,r⟩;obtain⟨Z2,W,t2,t3⟩:=r.o;exact⟨rfl,Aa (d Z1 Z2 w' k i t2 t3 (by simpa[al]using W))⟩
 ·obtain⟨Z1,j,k,i⟩:=r;by_cases f:mid<e
  ·have:B2=[]:=aP.1 O;subst this;exact d Z1 A2 w1 k i l.2.1 oS (by simpa using j)
  ·have:A2=[]:=aP.1 O;subst this;exact d Z1 B2 w1 k i p.2.1 oS (by simpa using j)
theorem Xc(w0:ax)(g base n v a m b:Nat)(P X f4 R:List Mg)(w:ax)(h:RW w0 g base n v (P++(X++(f4++R))) w)(hn:n<=100000)(ha:P.length=a)(hm:a+X.length=m)(hb:m+f4.length=b)(h2:2<=X.length/\2<=f4.length)(hX:De X)(hY:De f4)(hH:Vu w0 g base n v (X.length+f4.length)):aq ab 139 #[aj (I ⟨g,0,E⟩) n v,Y G (a:Int),Y G (m:Int),Y G (b:Int),br (bp 65) #[] #[]] w λe w'=>e=ac (az #[])/\Hid (IU w0 g base n v P X f4 R w'):=by
 have a0:=h.2;simp only[ae]at a0;have b2:Hid (∀(k:Nat) y,X[k]?=I y->(P++(X++(f4++R)))[a+k]?=I y):=Aa (λk y H=>by have hk:=(aa.1 H).1;rw[av O,show a+k-P.length=k by omega,aC hk];exact H);have b3:Hid (∀(k:Nat) y,f4[k]?=I y->(P++(X++(f4++R)))[m+k]?=I y):=Aa (λk y H=>by have hk:=(aa.1 H).1;rw[av O,av O,show m+k-P.length-X.length=k by omega,aC hk];exact H);have b1:=Aa h;have HX:=Aa hX;have HY:=Aa hY;have a1:=Aa hm;have a2:=Aa hb;have b0:=Aa hH;have HP:=Aa ha;have H2:=Aa h2;have d8:b<=n:=O;have d7:a+2<=m:=O;have e6:m+2<=b:=O;obtain⟨ma,b5⟩:∃ma:Nat,Hid (m-a=ma):=⟨_,rfl⟩;obtain⟨bm,b4⟩:∃bm:Nat,Hid (b-m=bm):=⟨_,rfl⟩;have wm:G.wrap ((m:Int)-(a:Int))=(ma:Int):=by have:=b5.o;rw[ao];omega
 have wb:G.wrap ((b:Int)-(m:Int))=(bm:Int):=by have:=b4.o;rw[ao];omega
 have en:((ma:Int)==1)=ai:=by have:=b5.o;rw[beq_eq_false_iff_ne];omega
 have d6:((bm:Int)==1)=ai:=by have:=b4.o;rw[beq_eq_false_iff_ne];omega
 obtain⟨mid,l⟩:∃mid:Nat,Hid ((a+b)/2=mid):=⟨_,rfl⟩;have c9:((a:Int)+(b:Int))/2=(mid:Int):=by have:=l.o;omega
 have c0:a<mid:=by have:=l.o;omega
 have c5:mid<b:=by have:=l.o;omega
 obtain⟨nn,N⟩:∃nn:Nat,Hid (mid+m=nn):=⟨_,rfl⟩;have f1:G.wrap ((mid:Int)+(m:Int))=(nn:Int):=by have:=N.o;rw[ao];omega
 obtain⟨pp,b6⟩:∃pp:Nat,Hid (mid+m-1=pp):=⟨_,rfl⟩;have f2:G.wrap ((nn:Int)-1)=(pp:Int):=by have:=N.o;have:=b6.o;rw[ao];omega
 obtain⟨lo,D,Hl⟩:∃lo D:Nat,Hid ((mid<m/\lo=mid+m-b/\D=mid)\/(m<=mid/\lo=a/\D=m)):=by
  by_cases q:mid<m
  ·exact⟨mid+m-b,mid,Aa (aw ⟨q,rfl,rfl⟩)⟩
  ·exact⟨a,m,Aa (aG ⟨O,rfl,rfl⟩)⟩
 have a7:lo<=D:=by have:=l.o;rcases Hl.o with⟨M,W,q3⟩|⟨M,W,q3⟩<;>omega
 clear h hX hY hm hb ha a0 h2 hH;go_enter cz,cr
 go_upto_if 140 with fail
 go_cut[20,21] (λc6 c7 wx=>c6=Y G (lo:Int)/\c7=Y G (D:Int)/\wx=w);case first=>
  by_cases q:mid<m
  ·have M:(mid:Int)<(m:Int):=O;have c8:G.wrap ((nn:Int)-(b:Int))=(lo:Int):=by have:=N.o;have:=l.o;rw[ao];rcases Hl.o with⟨M,W,q3⟩|⟨M,W,q3⟩<;>omega
   have Q:Hid (D=mid):=Aa (by rcases Hl.o with⟨M,W,q3⟩|⟨M,W,q3⟩<;>omega);go_wp2_with fail;go_meet;case rel=>exact⟨by first|rfl|rw[c8],by rw[Q.o],rfl⟩
  ·have M:¬(mid:Int)<(m:Int):=O;have Q:Hid (D=m/\lo=a):=Aa (by rcases Hl.o with⟨M,W,q3⟩|⟨M,W,q3⟩<;>omega);go_wp2_with fail;go_meet;case rel=>exact⟨by rw[Q.o.2],by rw[Q.o.1],rfl⟩
 case rest=>
  obtain⟨rfl,rfl,rfl⟩:=hcut;go_wp2;go_loopg[20,21] (D-lo) (λgk vi vj wr=>∃i j:Nat,vi=Y G i/\vj=Y G j/\lo<=i/\i<=j/\j<=D/\j-i<=gk/\Hid ((∀c x y,lo<=c->c<i->X[c-a]?=I x->f4[mid+m-1-c-m]?=I y->x.1<=y.1)/\(∀c x y,j<=c->c<D->X[c-a]?=I x->f4[mid+m-1-c-m]?=I y->y.1<x.1))/\Hid (RW w0 g base n v (P++(X++(f4++R))) wr));case atStart=>exact⟨lo,D,rfl,rfl,ag _,a7,ag _,ag _,Aa ⟨λc x y _ _=>O,λc x y _ _=>O⟩,b1⟩
  case round=>
   clear b1;obtain⟨i,j,rfl,rfl,b9,d9,b7,b8,HI,HW⟩:=hrel;by_cases e5:i<j
   ·obtain⟨q,Hq⟩:∃q:Nat,Hid ((i+j)/2=q):=⟨_,rfl⟩;have e9:((i:Int)+(j:Int))/2=(q:Int):=by have:=Hq.o;omega
    have e7:i<=q:=by have:=Hq.o;omega
    have e8:q<j:=by have:=Hq.o;omega
    have p:Hid (a<=q/\q<m/\m<=mid+m-1-q/\mid+m-1-q<b):=Aa (by have:=l.o;rcases Hl.o with⟨M,W,q3⟩|⟨M,W,q3⟩<;>omega);have f0:q<n:=by have:=p.o;omega
    obtain⟨pq,a5⟩:∃pq:Nat,Hid (mid+m-1-q=pq):=⟨_,rfl⟩;have f3:G.wrap ((pp:Int)-(q:Int))=(pq:Int):=by have:=a5.o;have:=b6.o;have:=p.o;rw[ao];omega
    have d5:pq<n:=by have:=a5.o;have:=p.o;omega
    obtain⟨x,hx⟩:∃x,X[q-a]?=I x:=⟨_,ad (by have:=a1.o;have:=p.o;omega)⟩;obtain⟨y,H⟩:∃y,f4[mid+m-1-q-m]?=I y:=⟨_,ad (by have:=a2.o;have:=p.o;omega)⟩;have S:=b2.o (q-a) x hx;rw[show a+(q-a)=q by have:=p.o;omega]at S;have U:=b3.o _ y H;rw[show m+(mid+m-1-q-m)=pq by have:=a5.o;have:=p.o;omega]at U;have d:Hid (∀V,aA wr.1.size wr V->((V.cell? ⟨g,pq*5,E⟩=I (Y G y.1)/\V.cell? ⟨g,pq*5+1,E⟩=I (Y G y.2)/\V.cell? ⟨g,pq*5+2,E⟩=I (am y.3)/\V.cell? ⟨g,pq*5+3,E⟩=I (am y.4)/\V.cell? ⟨g,pq*5+4,E⟩=I (Y G y.5))/\(V.cell? ⟨g,q*5,E⟩=I (Y G x.1)/\V.cell? ⟨g,q*5+1,E⟩=I (Y G x.2)/\V.cell? ⟨g,q*5+2,E⟩=I (am x.3)/\V.cell? ⟨g,q*5+3,E⟩=I (am x.4)/\V.cell? ⟨g,q*5+4,E⟩=I (Y G x.5)))/\aA wr.1.size wr V):=Aa (λV hB=>⟨⟨(HW.o.below hB).at_ U,(HW.o.below hB).at_ S⟩,hB⟩);obtain⟨z,Hz⟩:∃z,Hid (EV y.1 x.1=z):=⟨_,rfl⟩;have A:Hid (∀V:ax,aq ab 65 #[ct #[Y G y.1,Y G y.2,am y.3,am y.4,Y G y.5],ct #[Y G x.1,Y G x.2,am x.3,am x.4,Y G x.5]] V λe w'=>e=ac (Y G z)/\aA V.1.size V w'):=Aa (λV=>by rw[<-Hz.o];exact P5 y x V);have L:=IG y.1 x.1;rw[Hz.o]at L;obtain⟨⟨⟨d0,d1,d2,d3,d4⟩,e0,e1,e2,e3,e4⟩,-⟩:=d.o wr (aB _ _);by_cases hc:y.1<x.1
    ·have hz:aY (z<0)=aE:=by rw[L];simpa using hc
     have HN:Hid (∀c x' y',q<=c->c<D->X[c-a]?=I x'->f4[mid+m-1-c-m]?=I y'->y'.1<x'.1):=Aa (λc x' y' h1 h2 a8 a9=>by have hq:=p.o;have g1:=Dl HX.o hx a8 O;have g2:=Dl HY.o a9 H O;omega);clear hx H S U L hc;go_wp2;go_region_held3(λV=>((V.cell? ⟨g,pq*5,E⟩=I (Y G y.1)/\V.cell? ⟨g,pq*5+1,E⟩=I (Y G y.2)/\V.cell? ⟨g,pq*5+2,E⟩=I (am y.3)/\V.cell? ⟨g,pq*5+3,E⟩=I (am y.4)/\V.cell? ⟨g,pq*5+4,E⟩=I (Y G y.5))/\(V.cell? ⟨g,q*5,E⟩=I (Y G x.1)/\V.cell? ⟨g,q*5+1,E⟩=I (Y G x.2)/\V.cell? ⟨g,q*5+2,E⟩=I (am x.3)/\V.cell? ⟨g,q*5+3,E⟩=I (am x.4)/\V.cell? ⟨g,q*5+4,E⟩=I (Y G x.5)))/\aA wr.1.size wr V)
      ((refine d.o _ ?_;repeat(first|assumption|exact aB _ _|refine aS ?_)))
      ((go_at_call 65;refine(A.o _).mono ?_;rintro e w5 ⟨rfl,h5⟩;have a6:=Ad (B:=wr.1.size) (w:=wr) (by repeat(first|assumption|exact aB _ _|refine aS ?_)) (by first|exact ag _|assumption) h5));all_goals
      have a3:=Aa (HW.o.below a6);clear h5 A d d0 d1 d2 d3 d4 e0 e1 e2 e3 e4 HW;go_wp2;go_roundg (gk-1);case rel=>exact⟨i,q,rfl,rfl,O,O,O,O,Aa ⟨HI.o.1,HN.o⟩,a3⟩
      case measure=>omega
    ·have hz:aY (z<0)=ai:=by rw[L];simpa using hc
     have HN:Hid (∀c x' y',lo<=c->c<q+1->X[c-a]?=I x'->f4[mid+m-1-c-m]?=I y'->x'.1<=y'.1):=Aa (λc x' y' h1 h2 a8 a9=>by have hq:=p.o;have g1:=Dl HX.o a8 hx O;have g2:=Dl HY.o H a9 O;omega);clear hx H S U L hc;go_wp2;go_region_held3(λV=>((V.cell? ⟨g,pq*5,E⟩=I (Y G y.1)/\V.cell? ⟨g,pq*5+1,E⟩=I (Y G y.2)/\V.cell? ⟨g,pq*5+2,E⟩=I (am y.3)/\V.cell? ⟨g,pq*5+3,E⟩=I (am y.4)/\V.cell? ⟨g,pq*5+4,E⟩=I (Y G y.5))/\(V.cell? ⟨g,q*5,E⟩=I (Y G x.1)/\V.cell? ⟨g,q*5+1,E⟩=I (Y G x.2)/\V.cell? ⟨g,q*5+2,E⟩=I (am x.3)/\V.cell? ⟨g,q*5+3,E⟩=I (am x.4)/\V.cell? ⟨g,q*5+4,E⟩=I (Y G x.5)))/\aA wr.1.size wr V)
      ((refine d.o _ ?_;repeat(first|assumption|exact aB _ _|refine aS ?_)))
      ((go_at_call 65;refine(A.o _).mono ?_;rintro e w5 ⟨rfl,h5⟩;have a6:=Ad (B:=wr.1.size) (w:=wr) (by repeat(first|assumption|exact aB _ _|refine aS ?_)) (by first|exact ag _|assumption) h5));all_goals
      have a3:=Aa (HW.o.below a6);clear h5 A d d0 d1 d2 d3 d4 e0 e1 e2 e3 e4 HW;go_wp2;go_roundg (gk-1);case rel=>exact⟨q+1,j,by go_num,rfl,O,O,b7,O,Aa ⟨HN.o,HI.o.2⟩,a3⟩
      case measure=>omega
   obtain rfl:i=j:=O;obtain⟨s,rfl⟩:∃s,i=s:=⟨_,rfl⟩;obtain⟨e,He⟩:∃e:Nat,Hid (mid+m-i=e):=⟨_,rfl⟩;have HC:=Aa (Xa HX.o HY.o a1.o a2.o l.o Hl.o ⟨b9,b7⟩ He.o HI.o.1 HI.o.2);have we:G.wrap ((nn:Int)-(i:Int))=(e:Int):=by have:=N.o;have:=He.o;have:=HC.o.2;rw[ao];omega
   have u:=Aa (US hn HW.o b0.o HX.o HY.o HP.o a1.o a2.o H2.o l.o HC.o);have a4:Hid (X.take (i-a)++X.drop (i-a)=X/\f4.take (e-m)++f4.drop (e-m)=f4):=Aa ⟨aD _ _,aD _ _⟩;have r:Hid (∀w',IU w0 g base n v P (X.take (i-a)++X.drop (i-a)) (f4.take (e-m)++f4.drop (e-m)) R w'->Hid (IU w0 g base n v P X f4 R w')):=Aa (λw' q=>by rw[a4.o.1,a4.o.2]at q;exact Aa q);clear HI HW b8 b2 b3 b0 HX HY a4;by_cases c1:i<m
   ·by_cases c2:m<e
    ·have z1:(i:Int)<(m:Int):=O;have z2:(m:Int)<(e:Int):=O;have z3:(i:Int)<(mid:Int):=by have:=HC.o.5;omega
     have z4:(mid:Int)<(e:Int):=by have:=HC.o.5;omega
     have HR:=Aa (u.o.1 c1 c2);go_wp2_with(go_at_call 163;go_must(refine HR.o.mono ?_);rintro e w1 ⟨rfl,h1⟩;refine ak ?_);refine Aa ?_;by_cases c3:a<i
     ·have z5:(a:Int)<(i:Int):=O;have t:=Aa (u.o.3 w1 h1.o c3 O);clear h1 HR;go_wp2_with(go_at_call 139;go_must(refine t.o.mono ?_);rintro e w2 ⟨rfl,h2⟩;refine ak ?_);refine Aa ?_;by_cases c4:e<b
      ·have z6:(e:Int)<(b:Int):=O;have f:=Aa (u.o.5 w2 h2.o O c4);clear h2 t;go_wp2_with(go_at_call 139;go_must(refine f.o.mono ?_);rintro e w3 ⟨rfl,h3⟩;refine ak ?_);refine Aa ?_;go_wp2;go_end0;exact⟨rfl,r.o _ h3.o⟩
      ·have z6:¬(e:Int)<(b:Int):=O;have f:=Aa (u.o.6 w2 h2.o (λq=>c4 q.2));clear h2 t;go_wp2;go_end0;exact⟨rfl,r.o _ f.o⟩
     ·have z5:¬(a:Int)<(i:Int):=O;have t:=Aa (u.o.4 w1 h1.o (λq=>c3 q.1));clear h1 HR;by_cases c4:e<b
      ·have z6:(e:Int)<(b:Int):=O;have f:=Aa (u.o.5 w1 t.o O c4);clear t;go_wp2_with(go_at_call 139;go_must(refine f.o.mono ?_);rintro e w3 ⟨rfl,h3⟩;refine ak ?_);refine Aa ?_;go_wp2;go_end0;exact⟨rfl,r.o _ h3.o⟩
      ·have z6:¬(e:Int)<(b:Int):=O;have f:=Aa (u.o.6 w1 t.o (λq=>c4 q.2));clear t;go_wp2;go_end0;exact⟨rfl,r.o _ f.o⟩
    ·have z1:(i:Int)<(m:Int):=O;have z2:¬(m:Int)<(e:Int):=O;have z3:¬(i:Int)<(mid:Int):=by have:=HC.o.5;have:=HC.o.3;omega
     have z4:(mid:Int)<(e:Int):=by have:=HC.o.5;have:=HC.o.3;omega
     have z6:(e:Int)<(b:Int):=by have:=HC.o.3;omega
     have t:=Aa (u.o.4 wr (u.o.2 (λq=>c2 q.2)) (λq=>absurd q.2 O));have f:=Aa (u.o.5 wr t.o O O);clear t;by_cases z5:(a:Int)<(i:Int)
     ·skip;go_wp2_with(go_at_call 139;go_must(refine f.o.mono ?_);rintro e w3 ⟨rfl,h3⟩;refine ak ?_);refine Aa ?_;go_wp2;go_end0;exact⟨rfl,r.o _ h3.o⟩
     ·skip;go_wp2_with(go_at_call 139;go_must(refine f.o.mono ?_);rintro e w3 ⟨rfl,h3⟩;refine ak ?_);refine Aa ?_;go_wp2;go_end0;exact⟨rfl,r.o _ h3.o⟩
   ·have z1:¬(i:Int)<(m:Int):=O;have z4:¬(mid:Int)<(e:Int):=by have:=HC.o.5;have:=HC.o.3;have:=HC.o.2;omega
    have z5:(a:Int)<(i:Int):=O;by_cases c2:i<mid
    ·have z3:(i:Int)<(mid:Int):=O;have t:=Aa (u.o.3 wr (u.o.2 (λq=>c1 q.1)) O c2);go_wp2_with(go_at_call 139;go_must(refine t.o.mono ?_);rintro e w2 ⟨rfl,h2⟩;refine ak ?_);refine Aa ?_;have f:=Aa (u.o.6 w2 h2.o (λq=>absurd q.1 O));clear h2 t;go_wp2;go_end0;exact⟨rfl,r.o _ f.o⟩
    ·have z3:¬(i:Int)<(mid:Int):=O;have t:=Aa (u.o.4 wr (u.o.2 (λq=>c1 q.1)) (λq=>c2 q.2));have f:=Aa (u.o.6 wr t.o (λq=>absurd q.1 O));clear t;go_wp2;go_end0;exact⟨rfl,r.o _ f.o⟩
theorem W8(w0:ax)(g base n c:Nat)(i:n<=100000):∀N,Vu w0 g base n c N:=by
 intro N;induction N with
 |zero=>intro P X D R a m b w h;omega
 |succ N ih=>
  intro P X D R a m b w A d hm f hx B p q h;have hH:Vu w0 g base n c (X.length+D.length):=λs u v t z m' b' w' h'=>ih s u v t z m' b' w' O;by_cases c1:X.length=1
  ·obtain⟨x,rfl⟩:∃x,X=[x]:=cb.1 c1;refine(Xd w0 g base n c a m b P D R x w (by simpa using h) i d (by simpa using hm.symm) f q).mono ?_;rintro e w' ⟨rfl,r⟩;obtain⟨H,j,k,l⟩:=r.o;exact⟨rfl,Aa ⟨H,by simpa[al]using j,k,by simpa using l⟩⟩
  ·by_cases c2:D.length=1
   ·obtain⟨y,rfl⟩:∃y,D=[y]:=cb.1 c2;refine(UR w0 g base n c a m b P X R y w (by simpa using h) i d hm (by simpa using f.symm) O p).mono ?_;rintro e w' ⟨rfl,r⟩;obtain⟨H,j,k,l⟩:=r.o;exact⟨rfl,Aa ⟨H,by simpa[al]using j,k,l.trans (bR y X).symm⟩⟩
   ·exact Xc w0 g base n c a m b P X D R w h i d hm f ⟨O,O⟩ p q hH
theorem PU{d f:List Mg}{x:Mg}(h:De (d++f))(h2:∀z∈f,x.1<=z.1)(h1:∀z,d.getLast?=I z->z.1<=x.1):De (d++x::f):=by
 obtain⟨i,k,l⟩:=aI.1 h;refine aI.2 ⟨i,cy.2 ⟨h2,k⟩,λa c b g=>?_⟩;rcases bW.1 g with rfl|g
 ·cases e:d.getLast? with
  |none=>rw[List.getLast?_eq_none_iff]at e;subst e;cases c
  |some z=>
   obtain⟨m,rfl⟩:=bV.1 e;have j:=h1 z e;rcases aM.1 c with c|c
   ·have:=(aI.1 i).2.2 a c z (bv.2 rfl);omega
   ·obtain rfl:=bv.1 c;exact j
 ·exact l a c b g
theorem TH(w0:ax)(g base n k a b:Nat)(P S R:List Mg)(w:ax)(h:RW w0 g base n k (P++(S++R)) w)(hn:n<=100000)(ha:P.length=a)(hb:a+S.length=b):aq ab 138 #[aj (I ⟨g,0,E⟩) n k,Y G (a:Int),Y G (b:Int),br (bp 65) #[] #[]] w λe w'=>e=ac (az #[])/\Hid (∃Z,RW w0 g base n k (P++(Z++R)) w'/\De Z/\Z.Perm S):=by
 have a2:=h.2;simp only[ae]at a2;have b6:b<=n:=O;obtain⟨U,X⟩:∃U:Nat,Hid (a+1=U):=⟨_,rfl⟩;have wa:G.wrap ((a:Int)+1)=(U:Int):=by have:=X.o;rw[ao];omega
 have H0:Hid (∃Z,RW w0 g base n k (P++(Z++(S.drop (U-a)++R))) w/\De Z/\Z.Perm (S.take (U-a))):=Aa (by
  rw[show U-a=1 by have:=X.o;omega];refine⟨S.take 1,by rw[<-al (S.take 1),aD];exact h,?_,cm _⟩;cases S with
  |nil=>exact List.Pairwise.nil
  |cons x r=>exact List.pairwise_singleton _ _);have HP:=Aa ha;have HS:=Aa hb;have b3:a<=b:=O;have a9:a<U:=by have:=X.o;omega
 have a7:U<=n+1:=by have:=X.o;omega
 clear h ha hb a2;go_enter cV,cT;go_wp2;go_loopg[8] (b+1-a) (λgk v wr=>∃i:Nat,v=Y G i/\a<i/\i<=n+1/\(i<=b\/i=U)/\b+1-i<=gk/\Hid (∃Z,RW w0 g base n k (P++(Z++(S.drop (i-a)++R))) wr/\De Z/\Z.Perm (S.take (i-a))));case atStart=>exact⟨U,rfl,a9,a7,aG rfl,O,H0⟩
 case round=>
  clear H0;obtain⟨i,rfl,b4,c0,b9,b8,HZ⟩:=hrel;by_cases c4:i<b
  ·obtain⟨x,hx⟩:∃x,S[i-a]?=I x:=⟨_,ad (by have:=HS.o;omega)⟩;have eD:S.drop (i-a)=x::S.drop (i-a+1):=by obtain⟨h1,rfl⟩:=aa.1 hx;exact aT h1
   have eT:S.take (i-a+1)=S.take (i-a)++[x]:=by rw[aW,hx];rfl
   have a5:Hid (∃d f,(RW w0 g base n k (P++(d++x::(f++(S.drop (i-a+1)++R)))) wr/\d.length=i-a)/\De (d++f)/\(d++f).Perm (S.take (i-a))/\∀z∈f,x.1<=z.1):=Aa (by obtain⟨Z,r1,L,t⟩:=HZ.o;have hl:=t.length_eq;rw[au]at hl;refine⟨Z,[],⟨by rw[eD]at r1;simpa using r1,by have:=HS.o;omega⟩,by simpa using L,by simpa using t,λz M=>by cases M⟩);have HT:=Aa eT;clear HZ hx eD eT;go_wp2;go_loopg[9] (i-a) (λa8 v wr=>∃j:Nat,v=Y G j/\a<=j/\j<=i/\j-a<=a8/\Hid (∃d f,(RW w0 g base n k (P++(d++x::(f++(S.drop (i-a+1)++R)))) wr/\d.length=j-a)/\De (d++f)/\(d++f).Perm (S.take (i-a))/\∀z∈f,x.1<=z.1));case atStart=>exact⟨i,rfl,O,ag _,ag _,a5⟩
   case round=>
    clear a5;obtain⟨j,rfl,b5,c2,b7,HI⟩:=hrel;have H:Hid (∀w',(∃d f,(RW w0 g base n k (P++(d++x::(f++(S.drop (i-a+1)++R)))) w'/\De (d++x::f))/\(d++f).Perm (S.take (i-a)))->∃Z,RW w0 g base n k (P++(Z++(S.drop (i+1-a)++R))) w'/\De Z/\Z.Perm (S.take (i+1-a))):=Aa (λw' ⟨d,f,⟨r1,L⟩,t⟩=>by rw[show i+1-a=i-a+1 by omega,HT.o];exact⟨d++x::f,by simpa[al]using r1,L,(cM.trans (t.cons x)).trans (bR x _).symm⟩);by_cases c1:a<j
    ·obtain⟨c,u⟩:∃c:Nat,Hid (c+1=j):=⟨j-1,Aa O⟩;have wj:G.wrap ((j:Int)-1)=(c:Int):=by have:=u.o;rw[ao];omega
     have c5:c<j:=by have:=u.o;omega
     have c3:j<n:=O;have b2:c<n:=O;have b0:(a:Int)<(j:Int):=O;obtain⟨d,y,f,r0,l1,L,t,r4⟩:∃d y f,RW w0 g base n k (P++((d++[y])++x::(f++(S.drop (i-a+1)++R)))) wr/\d.length=c-a/\De ((d++[y])++f)/\((d++[y])++f).Perm (S.take (i-a))/\∀z∈f,x.1<=z.1:=by
      obtain⟨d,f,⟨r0,l1⟩,L,t,r4⟩:=HI.o;have hj:=u.o;cases e:d.getLast? with
      |none=>rw[List.getLast?_eq_none_iff]at e;subst e;simp at l1;omega
      |some z=>obtain⟨ys,rfl⟩:=bV.1 e;rw[ae,aZ]at l1;exact⟨ys,z,f,r0,O,L,t,r4⟩
     have e1:P++((d++[y])++x::(f++(S.drop (i-a+1)++R)))=(P++d)++y::([]++x::(f++(S.drop (i-a+1)++R))):=oS;have a0:(P++d).length=c:=by have:=HP.o;have:=u.o;rw[ae];omega
     obtain⟨p,s,a4⟩:=IQ (P++d) [] (f++(S.drop (i-a+1)++R)) y x (i:=c) (j:=j) a0 (by have:=u.o;rw[a0];simp;omega);have A:=r0;rw[e1]at A;have l:Hid (∀V,aA wr.1.size wr V->((V.cell? ⟨g,j*5,E⟩=I (Y G x.1)/\V.cell? ⟨g,j*5+1,E⟩=I (Y G x.2)/\V.cell? ⟨g,j*5+2,E⟩=I (am x.3)/\V.cell? ⟨g,j*5+3,E⟩=I (am x.4)/\V.cell? ⟨g,j*5+4,E⟩=I (Y G x.5))/\(V.cell? ⟨g,c*5,E⟩=I (Y G y.1)/\V.cell? ⟨g,c*5+1,E⟩=I (Y G y.2)/\V.cell? ⟨g,c*5+2,E⟩=I (am y.3)/\V.cell? ⟨g,c*5+3,E⟩=I (am y.4)/\V.cell? ⟨g,c*5+4,E⟩=I (Y G y.5)))/\aA wr.1.size wr V):=Aa (λV W=>⟨⟨(A.below W).at_ s,(A.below W).at_ p⟩,W⟩);obtain⟨z,Hz⟩:∃z,Hid (EV x.1 y.1=z):=⟨_,rfl⟩;have D:Hid (∀V:ax,aq ab 65 #[ct #[Y G x.1,Y G x.2,am x.3,am x.4,Y G x.5],ct #[Y G y.1,Y G y.2,am y.3,am y.4,Y G y.5]] V λe w'=>e=ac (Y G z)/\aA V.1.size V w'):=Aa (λV=>by rw[<-Hz.o];exact P5 x y V);have Q:=IG x.1 y.1;rw[Hz.o]at Q;obtain⟨⟨⟨d0,d1,d2,d3,d4⟩,e0,e1,e2,e3,e4⟩,-⟩:=l.o wr (aB _ _);by_cases hc:x.1<y.1
     ·have M:aY (z<0)=aE:=by rw[Q];simpa using hc
      have a6:Hid (∀w5,aA wr.1.size wr w5->RW w0 g base n k ((P++d)++y::([]++x::(f++(S.drop (i-a+1)++R)))) w5/\Hid (∃d f,(RW w0 g base n k (P++(d++x::(f++(S.drop (i-a+1)++R)))) (CZ (CZ w5 g (j*5) y) g (c*5) x).drew/\d.length=c-a)/\De (d++f)/\(d++f).Perm (S.take (i-a))/\∀z∈f,x.1<=z.1)):=Aa (λw5 W=>by
       refine⟨A.below W,Aa ⟨d,y::f,⟨?_,l1⟩,by simpa using L,by simpa using t,λz M=>?_⟩⟩
       ·have q:=((A.below W).swap s p).drew;rw[Lf _ O,a4]at q;simpa[al]using q
       ·rcases bW.1 M with rfl|M
        ·omega
        ·exact r4 z M);have N:=Aa (And.intro p s);clear A r0 L t r4 p s a4 e1 Q hc HI a0;go_wp2;go_region_held3(λV=>((V.cell? ⟨g,j*5,E⟩=I (Y G x.1)/\V.cell? ⟨g,j*5+1,E⟩=I (Y G x.2)/\V.cell? ⟨g,j*5+2,E⟩=I (am x.3)/\V.cell? ⟨g,j*5+3,E⟩=I (am x.4)/\V.cell? ⟨g,j*5+4,E⟩=I (Y G x.5))/\(V.cell? ⟨g,c*5,E⟩=I (Y G y.1)/\V.cell? ⟨g,c*5+1,E⟩=I (Y G y.2)/\V.cell? ⟨g,c*5+2,E⟩=I (am y.3)/\V.cell? ⟨g,c*5+3,E⟩=I (am y.4)/\V.cell? ⟨g,c*5+4,E⟩=I (Y G y.5)))/\aA wr.1.size wr V)
       ((refine l.o _ ?_;repeat(first|assumption|exact aB _ _|refine aS ?_)))
       ((go_at_call 65;refine(D.o _).mono ?_;rintro e w5 ⟨rfl,h5⟩;have a3:=Ad (B:=wr.1.size) (w:=wr) (by repeat(first|assumption|exact aB _ _|refine aS ?_)) (by first|exact ag _|assumption) h5));all_goals
       clear D l d0 d1 d2 d3 d4 e0 e1 e2 e3 e4 h5;go_wp2_with fail;obtain⟨A,HF⟩:=a6.o w5 a3;have p:=N.o.1;have s:=N.o.2;obtain⟨d0,d1,d2,d3,d4⟩:=A.drew.at_ s;obtain⟨e0,e1,e2,e3,e4⟩:=A.drew.at_ p;obtain⟨p0,p1,p2,p3,p4⟩:=A.at_ s;obtain⟨q0,q1,q2,q3,q4⟩:=A.at_ p;have fr:=A.drew.free;have m:=A.free;have f0:w5.drew.frozen? ⟨g,j*5,E⟩=ai:=fr _;have g0:w5.drew.frozen? ⟨g,c*5,E⟩=ai:=fr _;have s0:w5.frozen? ⟨g,j*5,E⟩=ai:=m _;have t0:w5.frozen? ⟨g,c*5,E⟩=ai:=m _;have f1:w5.drew.frozen? ⟨g,j*5+1,E⟩=ai:=fr _;have g1:w5.drew.frozen? ⟨g,c*5+1,E⟩=ai:=fr _;have s1:w5.frozen? ⟨g,j*5+1,E⟩=ai:=m _;have t1:w5.frozen? ⟨g,c*5+1,E⟩=ai:=m _;have f2:w5.drew.frozen? ⟨g,j*5+2,E⟩=ai:=fr _;have g2:w5.drew.frozen? ⟨g,c*5+2,E⟩=ai:=fr _;have s2:w5.frozen? ⟨g,j*5+2,E⟩=ai:=m _;have t2:w5.frozen? ⟨g,c*5+2,E⟩=ai:=m _;have f3:w5.drew.frozen? ⟨g,j*5+3,E⟩=ai:=fr _;have g3:w5.drew.frozen? ⟨g,c*5+3,E⟩=ai:=fr _;have s3:w5.frozen? ⟨g,j*5+3,E⟩=ai:=m _;have t3:w5.frozen? ⟨g,c*5+3,E⟩=ai:=m _;have f4:w5.drew.frozen? ⟨g,j*5+4,E⟩=ai:=fr _;have g4:w5.drew.frozen? ⟨g,c*5+4,E⟩=ai:=fr _;have s4:w5.frozen? ⟨g,j*5+4,E⟩=ai:=m _;have t4:w5.frozen? ⟨g,c*5+4,E⟩=ai:=m _;have h2:¬j*5=c*5:=O;have c6:¬c*5=j*5:=O;have h3:¬j*5=c*5+1:=O;have c7:¬c*5+1=j*5:=O;have h4:¬j*5=c*5+2:=O;have c8:¬c*5+2=j*5:=O;have h6:¬j*5=c*5+3:=O;have c9:¬c*5+3=j*5:=O;have h7:¬j*5=c*5+4:=O;have d5:¬c*5+4=j*5:=O;have h8:¬j*5+1=c*5:=O;have d6:¬c*5=j*5+1:=O;have h9:¬j*5+1=c*5+1:=O;have d7:¬c*5+1=j*5+1:=O;have i0:¬j*5+1=c*5+2:=O;have d8:¬c*5+2=j*5+1:=O;have i1:¬j*5+1=c*5+3:=O;have d9:¬c*5+3=j*5+1:=O;have i2:¬j*5+1=c*5+4:=O;have e5:¬c*5+4=j*5+1:=O;have i3:¬j*5+2=c*5:=O;have e6:¬c*5=j*5+2:=O;have i4:¬j*5+2=c*5+1:=O;have e7:¬c*5+1=j*5+2:=O;have i5:¬j*5+2=c*5+2:=O;have e8:¬c*5+2=j*5+2:=O;have i6:¬j*5+2=c*5+3:=O;have e9:¬c*5+3=j*5+2:=O;have n24:¬j*5+2=c*5+4:=O;have f5:¬c*5+4=j*5+2:=O;have i7:¬j*5+3=c*5:=O;have f6:¬c*5=j*5+3:=O;have i8:¬j*5+3=c*5+1:=O;have f7:¬c*5+1=j*5+3:=O;have i9:¬j*5+3=c*5+2:=O;have f8:¬c*5+2=j*5+3:=O;have j0:¬j*5+3=c*5+3:=O;have f9:¬c*5+3=j*5+3:=O;have j2:¬j*5+3=c*5+4:=O;have g5:¬c*5+4=j*5+3:=O;have j3:¬j*5+4=c*5:=O;have g6:¬c*5=j*5+4:=O;have j4:¬j*5+4=c*5+1:=O;have g7:¬c*5+1=j*5+4:=O;have j5:¬j*5+4=c*5+2:=O;have g8:¬c*5+2=j*5+4:=O;have j6:¬j*5+4=c*5+3:=O;have g9:¬c*5+3=j*5+4:=O;have j7:¬j*5+4=c*5+4:=O;have h0:¬c*5+4=j*5+4:=O;clear fr m;clear A p s a6 N;go_region;all_goals
        go_wp2;go_roundg (gk-1);case rel=>refine⟨c,by first|rfl|go_num,by have:=u.o;omega,O,by have:=u.o;omega,?_⟩;unfold CZ at HF;exact HF
        case measure=>omega
     ·have M:aY (z<0)=ai:=by rw[Q];simpa using hc
      have HE:Hid (∀w5,aA wr.1.size wr w5->∃Z,RW w0 g base n k (P++(Z++(S.drop (i+1-a)++R))) w5/\De Z/\Z.Perm (S.take (i+1-a))):=Aa (λw5 W=>H.o w5 ⟨d++[y],f,⟨r0.below W,PU L r4 (λz M=>by simp at M;subst M;omega)⟩,t⟩);clear A r0 L t r4 p s a4 e1 Q hc HI a0 H;go_wp2;go_region_held3(λV=>((V.cell? ⟨g,j*5,E⟩=I (Y G x.1)/\V.cell? ⟨g,j*5+1,E⟩=I (Y G x.2)/\V.cell? ⟨g,j*5+2,E⟩=I (am x.3)/\V.cell? ⟨g,j*5+3,E⟩=I (am x.4)/\V.cell? ⟨g,j*5+4,E⟩=I (Y G x.5))/\(V.cell? ⟨g,c*5,E⟩=I (Y G y.1)/\V.cell? ⟨g,c*5+1,E⟩=I (Y G y.2)/\V.cell? ⟨g,c*5+2,E⟩=I (am y.3)/\V.cell? ⟨g,c*5+3,E⟩=I (am y.4)/\V.cell? ⟨g,c*5+4,E⟩=I (Y G y.5)))/\aA wr.1.size wr V)
       ((refine l.o _ ?_;repeat(first|assumption|exact aB _ _|refine aS ?_)))
       ((go_at_call 65;refine(D.o _).mono ?_;rintro e w5 ⟨rfl,h5⟩;have a3:=Ad (B:=wr.1.size) (w:=wr) (by repeat(first|assumption|exact aB _ _|refine aS ?_)) (by first|exact ag _|assumption) h5));all_goals
       clear D l d0 d1 d2 d3 d4 e0 e1 e2 e3 e4 h5;go_wp2;go_roundg (b-i);case rel=>exact⟨i+1,by go_num,O,O,aw O,O,Aa (HE.o w5 a3)⟩
       case measure=>omega
    ·have b0:¬(a:Int)<(j:Int):=O;have HE:Hid (∀w5,aA wr.1.size wr w5->∃Z,RW w0 g base n k (P++(Z++(S.drop (i+1-a)++R))) w5/\De Z/\Z.Perm (S.take (i+1-a))):=Aa (λw5 W=>by obtain⟨d,f,⟨r0,l1⟩,L,t,r4⟩:=HI.o;have b1:d=[]:=aP.1 O;exact H.o w5 ⟨d,f,⟨r0.below W,PU L r4 (λz M=>by rw[b1]at M;cases M)⟩,t⟩);have mixed:ab.follows .mixedOrders=aE:=K;clear HI H;go_wp2_with fail
     go_big_region_o
     all_goals
      go_wp2;go_roundg (b-i);case rel=>exact⟨i+1,by go_num,O,O,aw O,O,Aa (HE.o wr.drew (aB _ _).drew)⟩
      case measure=>omega
  ·have HF:Hid (∃Z,RW w0 g base n k (P++(Z++R)) wr/\De Z/\Z.Perm S):=Aa (by obtain⟨Z,r1,L,t⟩:=HZ.o;have hs:=HS.o;rw[bx O,cQ]at r1;rw[aK O]at t;exact⟨Z,r1,L,t⟩);clear HZ;go_wp2;go_end0;exact⟨rfl,HF⟩
def SBk(bs:Nat)(T:List Mg):Prop:=∀q,De ((T.drop (q*bs)).take bs)
theorem SBk.nil(bs:Nat):SBk bs []:=λq=>oS
theorem SBk.app{bs q:Nat}{D S:List Mg}(b:SBk bs D)(a:D.length=q*bs)(c:SBk bs S):SBk bs (D++S):=λr=>by
 by_cases h:r<q
 ·have h1:r*bs+bs<=D.length:=by rw[a];have:=Nat.mul_le_mul_right bs (show r+1<=q from h);rwa[ci,ck]at this
  rw[bP O,List.take_append_of_le_length (by rw[aH];omega)];exact b r
 ·have h1:D.length+(r-q)*bs=r*bs:=by rw[a,<-ci];congr 1;omega
  rw[<-h1,<-co,bP (ag _),List.drop_length,cQ];exact c (r-q)
theorem SBk.one{bs:Nat}{S:List Mg}(h:De S):SBk bs S:=λ_=>h.sublist ((cI _ _).trans (cF _ _))
theorem SBk.drop{bs:Nat}{S:List Mg}(h:SBk bs S)(k:Nat):SBk bs (S.drop (k*bs)):=λq=>by rw[co,<-ci];exact h (k+q)
theorem SBk.head{bs:Nat}{S:List Mg}(h:SBk bs S):De (S.take bs):=by have:=h 0;simpa using this
theorem SBk.all{bs:Nat}{S:List Mg}(h:SBk bs S)(a:S.length<=bs):De S:=by have:=h.head;rwa[aK a]at this
theorem WY(w0:ax)(g base n c:Nat)(T:List Mg)(w:ax)(h:RW w0 g base n c T w)(hn:n<=20000):aq ab 106 #[aj (I ⟨g,0,E⟩) n c,Y G (n:Int),br (bp 65) #[] #[]] w λe w'=>e=ac (az #[])/\Hid (∃Z,RW w0 g base n c Z w'/\De Z/\Z.Perm T):=by
 have H0:Hid (∃D S q,(RW w0 g base n c (D++S) w/\D.length=0/\0=q*20)/\SBk 20 D/\(D++S).Perm T):=Aa ⟨[],T,0,⟨h,rfl,rfl⟩,SBk.nil _,cm _⟩;have HS:=Aa (λN=>W8 w0 g base n c O N);have L:n<=100000:=O;clear h;go_enter cU,cS;go_wp2;go_loopg[7,8] (n+1) (λgk va vb wr=>∃a b:Nat,va=Y G a/\vb=Y G b/\a<=n/\b<=n+20/\n+21-b<=gk+20/\Hid (b=a+20)/\Hid (∃D S q,(RW w0 g base n c (D++S) wr/\D.length=a/\a=q*20)/\SBk 20 D/\(D++S).Perm T));case atStart=>exact⟨0,20,rfl,rfl,aO _,O,O,rfl,H0⟩
 case round=>
  clear H0;obtain⟨a,b,rfl,rfl,a9,b0,b4,Hb,r⟩:=hrel;by_cases W:b<=n
  ·have x:Hid (aq ab 138 #[aj (I ⟨g,0,E⟩) n c,Y G (a:Int),Y G (b:Int),br (bp 65) #[] #[]] wr λe w'=>e=ac (az #[])/\Hid (∃D S q,(RW w0 g base n c (D++S) w'/\D.length=b/\b=q*20)/\SBk 20 D/\(D++S).Perm T)):=Aa (by obtain⟨D,S,q,⟨f,j,l⟩,v,p⟩:=r.o;have hb:=Hb.o;have u:=f.2;rw[ae]at u;refine(TH w0 g base n c a b D (S.take 20) (S.drop 20) wr (by rw[aD];exact f) L j (by rw[au];omega)).mono ?_;rintro e w' ⟨rfl,t⟩;obtain⟨Z,A,t2,t3⟩:=t.o;have X:=t3.length_eq;rw[au]at X;refine⟨rfl,Aa ⟨D++Z,S.drop 20,q+1,⟨by rw[al];exact A,by rw[ae];omega,O⟩,v.app (j.trans l) (SBk.one t2),?_⟩⟩;refine cN ?_ p;rw[al];refine bh D ((t3.append_right _).trans ?_);rw[aD]);obtain⟨R,i⟩:∃R:Nat,Hid (b+20=R):=⟨_,rfl⟩;have wb:G.wrap ((b:Int)+20)=(R:Int):=by have:=i.o;rw[ao];omega
   clear r;go_wp2_with(go_at_call 138;go_must(refine x.o.mono ?_);rintro e w1 ⟨rfl,h1⟩;refine ak ?_);refine Aa ?_;go_wp2;go_roundg (gk-1);case rel=>exact⟨b,R,rfl,rfl,W,by have:=i.o;omega,by have:=i.o;omega,Aa i.o.symm,h1⟩
   case measure=>omega
  ·have x:Hid (aq ab 138 #[aj (I ⟨g,0,E⟩) n c,Y G (a:Int),Y G (n:Int),br (bp 65) #[] #[]] wr λe w'=>e=ac (az #[])/\Hid (∃Z,RW w0 g base n c Z w'/\SBk 20 Z/\Z.Perm T)):=Aa (by obtain⟨D,S,q,⟨f,j,l⟩,v,p⟩:=r.o;have u:=f.2;rw[ae]at u;refine(TH w0 g base n c a n D S [] wr (by simpa using f) L j O).mono ?_;rintro e w' ⟨rfl,t⟩;obtain⟨Z,A,t2,t3⟩:=t.o;exact⟨rfl,Aa ⟨D++Z,by simpa using A,v.app (j.trans l) (SBk.one t2),(bh D t3).trans p⟩⟩);have b1:¬(b:Int)<=(n:Int):=O;clear r Hb;go_wp2_with(go_at_call 138;go_must(refine x.o.mono ?_);rintro e w1 ⟨rfl,h1⟩;refine ak ?_);refine Aa ?_;go_wp2;go_loopg[6,7,8,9] (n+1) (λgk vs v7 v8 v9 wr=>∃s:Nat,vs=Y G s/\20<=s/\s<=2*n+20/\n+1-s<=gk/\Hid (∃Z,RW w0 g base n c Z wr/\SBk s Z/\Z.Perm T));case atStart=>exact⟨20,rfl,ag _,O,O,h1⟩
   case round=>
    clear h1 x;obtain⟨s,rfl,b7,b8,b5,P⟩:=hrel;by_cases a6:s<n
    ·obtain⟨d,k⟩:∃d:Nat,Hid (2*s=d):=⟨_,rfl⟩;have b9:G.wrap (2*(s:Int))=(d:Int):=by have:=k.o;rw[ao];omega
     have c0:G.wrap ((s:Int)*2)=(d:Int):=by have:=k.o;rw[ao];omega
     have a7:s<d:=by have:=k.o;omega
     have a8:d<=2*n:=by have:=k.o;omega
     have B:Hid (∃D S q,(RW w0 g base n c (D++S) wr/\D.length=0/\0=q*d)/\SBk d D/\SBk s S/\(D++S).Perm T):=Aa (by obtain⟨Z,f,j,l⟩:=P.o;exact⟨[],Z,0,⟨f,rfl,oS⟩,SBk.nil _,j,l⟩);clear P;go_wp2;go_loopg[7,8] (n+1) (λgk va vb wr=>∃a b:Nat,va=Y G a/\vb=Y G b/\a<=n/\b<=n+d/\n+1-a<=gk/\Hid (b=a+d)/\Hid (∃D S q,(RW w0 g base n c (D++S) wr/\D.length=a/\a=q*d)/\SBk d D/\SBk s S/\(D++S).Perm T));case atStart=>exact⟨0,d,rfl,rfl,aO _,O,O,Aa O,B⟩
     case round=>
      clear B;obtain⟨a,b,rfl,rfl,a0,a1,a5,i,r⟩:=hrel;obtain⟨m,Q⟩:∃m:Nat,Hid (a+s=m):=⟨_,rfl⟩;have wm:G.wrap ((a:Int)+(s:Int))=(m:Int):=by have:=Q.o;rw[ao];omega
      by_cases H:b<=n
      ·have x:Hid (aq ab 139 #[aj (I ⟨g,0,E⟩) n c,Y G (a:Int),Y G (m:Int),Y G (b:Int),br (bp 65) #[] #[]] wr λe w'=>e=ac (az #[])/\Hid (∃D S q,(RW w0 g base n c (D++S) w'/\D.length=b/\b=q*d)/\SBk d D/\SBk s S/\(D++S).Perm T)):=Aa (by
        obtain⟨D,S,q,⟨f,j,l⟩,v,p,M⟩:=r.o;have hb:=i.o;have hm:=Q.o;have z:=k.o;have u:=f.2;rw[ae]at u;have l1:(S.take s).length=s:=by rw[au];omega
        have l2:((S.drop s).take s).length=s:=by rw[au,aH];omega
        have eS:S.take s++((S.drop s).take s++S.drop d)=S:=by rw[<-z,Nat.two_mul,<-co,aD,aD]
        refine(HS.o (2*s+1) D (S.take s) ((S.drop s).take s) (S.drop d) a m b wr O j O O O O p.head ((p.drop 1).head.sublist (by rw[ck];exact List.Sublist.refl _)) (by rw[eS];exact f)).mono ?_;rintro e w' ⟨rfl,t⟩;obtain⟨Z,A,t2,t3⟩:=t.o;have X:=t3.length_eq;rw[ae]at X;refine⟨rfl,Aa ⟨D++Z,S.drop d,q+1,⟨by rw[al];exact A,by rw[ae];omega,by rw[ci];omega⟩,v.app (j.trans l) (SBk.one t2),?_,?_⟩⟩
        ·have:=p.drop 2;rwa[z]at this
        ·refine cN ?_ M;rw[al];refine bh D ((t3.append_right _).trans ?_);rw[al,eS]);obtain⟨U,y⟩:∃U:Nat,Hid (b+d=U):=⟨_,rfl⟩;have wb:G.wrap ((b:Int)+(d:Int))=(U:Int):=by have:=y.o;rw[ao];omega
       clear r;go_wp2_with(go_at_call 139;go_must(refine x.o.mono ?_);rintro e w3 ⟨rfl,V⟩;refine ak ?_);refine Aa ?_;go_wp2;go_roundg (gk-1);case rel=>exact⟨b,U,rfl,rfl,H,by have:=y.o;omega,by have:=i.o;omega,Aa y.o.symm,V⟩
       case measure=>omega
      ·have a2:¬(b:Int)<=(n:Int):=O;by_cases b6:m<n
       ·have x:Hid (aq ab 139 #[aj (I ⟨g,0,E⟩) n c,Y G (a:Int),Y G (m:Int),Y G (n:Int),br (bp 65) #[] #[]] wr λe w'=>e=ac (az #[])/\Hid (∃Z,RW w0 g base n c Z w'/\SBk d Z/\Z.Perm T)):=Aa (by
         obtain⟨D,S,q,⟨f,j,l⟩,v,p,M⟩:=r.o;have hb:=i.o;have hm:=Q.o;have z:=k.o;have u:=f.2;rw[ae]at u;have l1:(S.take s).length=s:=by rw[au];omega
         have l2:(S.drop s).length=S.length-s:=aH ..;have sd:De (S.drop s):=by have:=(p.drop 1).all (by rw[ck,l2];omega);rwa[ck]at this
         refine(HS.o (S.length+1) D (S.take s) (S.drop s) [] a m n wr O j O O O O p.head sd (by rw[bG,aD];exact f)).mono ?_;rintro e w' ⟨rfl,t⟩;obtain⟨Z,A,t2,t3⟩:=t.o;rw[aD]at t3;exact⟨rfl,Aa ⟨D++Z,by simpa using A,v.app (j.trans l) (SBk.one t2),(bh D t3).trans M⟩⟩);clear r;go_wp2_with(go_at_call 139;go_must(refine x.o.mono ?_);rintro e w3 ⟨rfl,V⟩;refine ak ?_);refine Aa ?_;go_wp2;go_roundg (n-s);case rel=>exact⟨d,rfl,O,O,O,V⟩
        case measure=>omega
       ·have HE:Hid (∃Z,RW w0 g base n c Z wr/\SBk d Z/\Z.Perm T):=Aa (by obtain⟨D,S,q,⟨f,j,l⟩,v,p,M⟩:=r.o;have hm:=Q.o;have u:=f.2;rw[ae]at u;exact⟨D++S,f,v.app (j.trans l) (SBk.one (p.all O)),M⟩);have a3:¬(m:Int)<(n:Int):=O;clear r;go_wp2;go_roundg (n-s);case rel=>exact⟨d,rfl,O,O,O,HE⟩
        case measure=>omega
    ·have HF:Hid (∃Z,RW w0 g base n c Z wr/\De Z/\Z.Perm T):=Aa (by obtain⟨Z,f,j,l⟩:=P.o;exact⟨Z,f,j.all (by have:=f.2;omega),l⟩);have a4:¬(s:Int)<(n:Int):=O;clear P;go_wp2;go_end0;exact⟨rfl,HF⟩
theorem Ys(w0:ax)(g base n a:Nat)(T:List Mg)(w:ax)(h:RW w0 g base n a T w)(b:n<=20000):aq ab 64 #[aj (I ⟨g,0,E⟩) n a,br (bp 65) #[] #[]] w λe w'=>e=ac (az #[])/\Hid (∃Z,RW w0 g base n a Z w'/\De Z/\Z.Perm T):=by have HS:=Aa (WY w0 g base n a T w h b);clear h;go_enter dg,cZ;go_wp2_with(go_at_call 106;go_must(refine HS.o.mono ?_);rintro e w1 ⟨rfl,h1⟩;refine ak ?_);refine Aa ?_;go_wp2;go_end0;exact⟨rfl,h1⟩
def Z5(s:WSt)(k j:Nat):Int:=match s.1[j]? with
 |some h=>if Bm h.1.3 (k:Int)=true then h.1.8 k else 0
 |none=>0
def Fh(s:WSt)(k:Nat)(rs:D3)(n:Nat):List Mg:=(di n).flatMap λj=>Me rs j (Z5 s k j)
theorem Pj(s:WSt)(k:Nat)(rs:D3)(n:Nat):Fh s k rs (n+1)=Fh s k rs n++Me rs n (Z5 s k n):=by unfold Fh;rw[List.range_succ,List.flatMap_append];simp
def Vr(s:WSt)(k:Nat)(h:HW)(l:List Mg):Prop:=∃ks,Ie (λt=>h.1.Q (aJ t)) ks/\l=Bo (λt=>h.1.Q (aJ t)) ks++Fh s k h.1 4
def LedN(s:WSt)(n:Nat)(l:List Mg):Prop:=∃ls:List (List Mg),l=ls.flatten/\ls.length=n/\∀(k:Nat) (h:HW) (x:List Mg),s.1[k]?=I h->ls[k]?=I x->Vr s k h x
theorem LedN.nil(s:WSt):LedN s 0 []:=⟨[],rfl,rfl,λk h x _ hx=>by simp at hx⟩
theorem LedN.snoc{s:WSt}{n:Nat}{l x:List Mg}{h:HW}(g:LedN s n l)(hk:s.1[n]?=I h)(hx:Vr s n h x):LedN s (n+1) (l++x):=by
 obtain⟨d,rfl,h2,f⟩:=g;refine⟨d++[x],oS,by simp[h2],λk h' y a b=>?_⟩;by_cases e:k<d.length
 ·rw[aC e]at b;exact f k h' y a b
 ·have c:k=n:=by have:=(aa.1 b).1;rw[ae,aZ]at this;omega
  subst c;rw[av O,h2,bJ]at b;obtain rfl:=af b;rw[hk]at a;obtain rfl:=af a;exact hx
theorem Rc(Q:DM->List Pl)(a:∀l,Fit (Q l))(ks:List ByteArray):(Bo (λt=>Q (aJ t)) ks).length<=C9 Q ks:=by
 induction ks with
 |nil=>exact Nat.le_refl _
 |cons s r ih=>
  have e:Bo (λt=>Q (aJ t)) (s::r)=Ar bf (AA (Q (aJ s)))++Bo (λt=>Q (aJ t)) r:=by simp[Bo]
  rw[e,ae,Ct];have h1:=Ce bf (AA (Q (aJ s)));rw[A4 (a _)]at h1;omega
theorem WA{h:HW}{k i p:Nat}(h0:HOk h k i p)(j:Nat)(ar:Int):(Me h.1 j ar).length<=780:=by
 unfold Me;split
 ·unfold Wz;have h1:=List.length_filter_le (λm:Mg=>!decide (m.1∈(if h.1.7 j<=ar then h.1.6 j else []))) (Ar bf (AA (h.1.Q (aL j))));have h2:=Ce bf (AA (h.1.Q (aL j)));rw[A4 (h0.1.q.1 _)]at h2;have a:=h0.len (aL j);omega
 ·exact aO _
theorem TN{h:HW}{k i p:Nat}(h0:HOk h k i p){ks:List ByteArray}(hk:Ie (λt=>h.1.Q (aJ t)) ks):(Bo (λt=>h.1.Q (aJ t)) ks).length<=780:=by have h1:=Rc h.1.Q h0.1.q.1 ks;have h2:=h0.1.tl ks hk.1;have a:=h0.4;omega
theorem Vz{s:WSt}(a:ES s)(k j:Nat):0<=Z5 s k j:=by
 unfold Z5;cases e:s.1[j]? with
 |none=>exact Int.le_refl _
 |some h=>
  obtain⟨i,p,h0⟩:=a j h e;simp only;split
  ·exact h0.1.25 k
  ·exact bg _
theorem Lz{w:ax}{d:Array Oper}{rest:List Oper}{o:Oper}{a:Act}{Q:Exit->Act->ax->Prop}(c:o.6=E)(e x:Operand)(r:o.2=.call {callee:=.builtin .append,args:=#[e,x],argTypes:=#[31,31]})(base B:Nat)(v v2:bj)(n m:Nat)(X D:List Mg)(hs:a.eval e=v)(hx:a.eval x=v2)(b:w.ownsRow base 52 5 v n (AK X))(h:w.ownsRow B 52 5 v2 m (AK D))(A:n+m<=100000)(y:base<=w.1.size)(p:∀v5 w5,Hid (w5.ownsRow base 52 5 v5 (n+m) (AK (X++D))/\w.grownBy w5 v.ownBlock)->dh ab d Q rest (a.put o.1 v5) w5):dh ab d Q (o::rest) a w:=by
 obtain⟨s,hj,i,j,k⟩:=Av FR;have hm:D.length=m:=by have:=h.1;rw[P8]at this;omega
 rcases own_rowM h with⟨f,g⟩|⟨t,c2,f,g⟩
 ·subst f g;have l:m=0:=by simpa using hm.symm
  subst l;refine wpList_append_own_none c e x 31 r base 52 s 5 cC hj v n _ hs b hx (p v w (Aa ⟨?_,⟨rfl,rfl,rfl,ag _,λ_ _ _=>rfl⟩⟩));rw[bG];exact b
 ·subst f;refine cE w c e x 31 r base 52 s _ 5 56 cC hj i j k rfl oD v n _ hs b ⟨t,0,E⟩ m c2 (AK D) hx h.1 g (λu z=>?_) (by unfold cg;omega) O y (λv5 w5 h1 h2 _=>p v5 w5 (Aa ⟨?_,h2⟩))
  ·obtain⟨q,-,hq⟩:=bM.1 z;exact Cf q u hq
  ·rw[P7];exact h1
theorem FZ(A:List Pl):Ar bf (AA A)=(AA (Ap A)).map Pl.m:=by unfold Ar Ap AA;rw[GC (λx:Pl=>(⟨x.m,-1,ai⟩:Pl)) (λ_=>rfl),C0,da];rfl
def CF(h:HW)(m:Mg):Prop:=∃u,fr m∈Ap (h.1.Q (aJ u))
def D7(h:HW)(j:Nat)(m:Mg):Prop:=fr m∈Ap (h.1.Q (aL j))
theorem VB{A:List Pl}{x:Pl}(h:x∈Ap A):x=fr x.m:=by obtain⟨y,-,-,rfl⟩:=A7.1 h;rfl
theorem EY{A:List Pl}(h:Fit A):Fit (Ap A):=II (Ez h _) _ (λ_=>rfl) (λx _ hx=>by cases hx)
theorem Ej{A:List Pl}(b:Fit A){m:Mg}:m∈Ar bf (AA A)↔fr m∈Ap A:=by
 rw[FZ,bt];have a:=BS (EY b);constructor
 ·rintro⟨x,hx,rfl⟩;have:=a.mem_iff.1 hx;rw[<-VB this];exact this
 ·intro h;exact⟨fr m,a.mem_iff.2 h,rfl⟩
theorem B7(rs:D3)(j:Nat):Cb rs j=((AA (Ap (rs.Q (aL j)))).map dm).filter λm=>aY (m.1∈rs.6 j):=by unfold Cb;rw[FZ]
theorem IL{rs:D3}{j:Nat}(a:Fit (rs.Q (aL j))){m:Mg}:m∈Cb rs j↔fr m∈Ap (rs.Q (aL j))/\m.1∈rs.6 j:=by unfold Cb;rw[bH,Ej a,decide_eq_true_eq]
theorem Mb{rs:D3}{j:Nat}(a:Fit (rs.Q (aL j))){ar:Int}{m:Mg}:m∈Wz rs j ar↔fr m∈Ap (rs.Q (aL j))/\¬(rs.7 j<=ar/\m.1∈rs.6 j):=by
 unfold Wz;rw[bH,Ej a];by_cases h:rs.7 j<=ar
 ·simp[h]
 ·simp[h]
structure SameC(h h':HW):Prop where
 q:∀l,Ap (h'.1.Q l)=Ap (h.1.Q l)
 md:h'.1.7=h.1.7
 db:h'.1.6=h.1.6
 ar:h'.1.8=h.1.8
 best:h'.1.5=h.1.5
theorem SameC.refl(h:HW):SameC h h:=⟨λ_=>rfl,rfl,rfl,rfl,rfl⟩
theorem SameC.trans{h h' h2:HW}(a:SameC h h')(b:SameC h' h2):SameC h h2:=⟨λl=>(b.q l).trans (a.q l),b.2.trans a.2,b.3.trans a.3,b.4.trans a.4,b.5.trans a.5⟩
theorem SameC.k{h h':HW}(a:SameC h h')(m:Mg):CF h' m↔CF h m:=by unfold CF;simp only[a.q]
theorem SameC.w{h h':HW}(a:SameC h h')(j:Nat)(m:Mg):D7 h' j m↔D7 h j m:=by unfold D7;rw[a.q]
theorem SameC.dbl{h h':HW}(a:SameC h h')(j:Nat):Cb h'.1 j=Cb h.1 j:=by rw[B7,B7,a.q,a.3]
theorem Fs{h:HW}{c:Ch}{rs':D3}{ns':List Nm}{n:Nat}(e:CE h≠0):SameC h (h.wr c rs' ns' n):=by
 by_cases a:CE h=14
 ·rw[bZ a];exact⟨λ_=>rfl,rfl,rfl,rfl,rfl⟩
 ·rw[cw e a];exact SameC.refl h
theorem UC(h:HW)(u:Nat)(s:ByteArray)(pri:Int)(body:ByteArray):SameC h (h.put u s pri body):=by
 unfold HW.put;split
 ·refine⟨λl=>?_,rfl,rfl,rfl,rfl⟩;show Ap (AU h.1.Q _ _ l)=_;unfold AU;split
  ·rename_i e;rw[Kr,e]
  ·rfl
 ·exact⟨λ_=>rfl,rfl,rfl,rfl,rfl⟩
theorem UB{h:HW}{k i p:Nat}(h0:HOk h k i p)(u:Nat)(s:ByteArray):SameC h (h.get u s):=by
 unfold HW.get;split
 ·rename_i x e;unfold HW.got at e;split at e
  ·have hm:x∈h.1.Q (aJ s):=(BS (h0.1.q.1 _)).mem_iff.1 (bY e);have c:x.free=aE:=cO e;have a:x.u<0:=by simpa[bd]using c
   refine⟨λl=>?_,rfl,rfl,rfl,rfl⟩;show Ap (AU h.1.Q _ _ l)=_;unfold AU;split
   ·rename_i e2;rw[IZ,e2];intro y d b;obtain rfl:=Z4 (h0.1.q.1 _).2 d hm b;simp[bf,a]
   ·rfl
  ·cases e
 ·exact SameC.refl h
theorem RQ(h:HW)(u:Nat):SameC h (h.back u):=by
 unfold HW.back;split
 ·exact⟨λl=>Bi u _,rfl,rfl,rfl,rfl⟩
 ·exact SameC.refl h
theorem RR(h:HW)(n t:Int):SameC h (h.cutT n t):=⟨λ_=>rfl,rfl,rfl,rfl,rfl⟩
theorem NL(h:HW)(n:Int):SameC h (h.cut n):=⟨λ_=>rfl,rfl,rfl,rfl,rfl⟩
theorem RP(h:HW)(H:Nat):SameC h (h.anew H):=⟨λl=>IY _,rfl,rfl,rfl,rfl⟩
theorem D8(Q:DM->List Pl)(u:Nat)(ds:List Dd)(l:DM):Ap (BZ Q u ds l)=Al (D1 l ds) (Ap (Q l))++D6 l ds:=by unfold BZ;rw[Du,Bz,Bi,EF,Fk]
theorem CP{Q:DM->List Pl}{l:DM}{m:Mg}(h:fr m∈Ap (Q l)):∃x∈Q l,x.kept=aE/\x.m=m:=by
 obtain⟨x,h1,h2,a⟩:=A7.1 h;refine⟨x,h1,h2,?_⟩;have:(fr m).m=x.m:=by rw[a]
 exact this.symm
def Cc(s:WSt)(k:Nat)(h:HW)(j:Nat)(m:Mg):Prop:=Bm h.1.3 (j:Int)=aE/\D7 h j m/\¬(h.1.7 j<=Z5 s k j/\m.1∈h.1.6 j)
def ZC(s:WSt)(m:Mg):Prop:=(∃(k:Nat) (h:HW),s.1[k]?=I h/\CF h m)\/(∃(k:Nat) (h:HW) (j:Nat),s.1[k]?=I h/\Cc s k h j m)
structure PkOk(s:WSt)(q:Pk)(k j:Nat)(h g:HW):Prop where
 fr:q.1=(k:Int)
 dst:q.5=(j:Int)
 ne:k≠j
 hk:s.1[k]?=I h
 hj:s.1[j]?=I g
 m3:q.4.length<=3
 rt:∀x∈q.4,right x=aE
 ack:q.3=aE->q.4=[]/\q.2<=h.1.8 j
 bat:q.3=ai->q.2<=h.1.7 j/\(g.1.8 k<q.2->q.4=Cb h.1 j)
structure Com(n:Nat)(s:WSt)(T:List Mg):Prop where
 len:s.1.length=n
 ap:T.Pairwise λa b=>a.1≠b.1
 mem:∀m,m∈T↔ZC s m
 u1:∀(k:Nat) (h:HW) (c:Nat) (h':HW) (m m':Mg),s.1[k]?=I h->s.1[c]?=I h'->CF h m->CF h' m'->m.1=m'.1->k=c
 u2:∀(k:Nat) (h:HW) (c:Nat) (h':HW) (j:Nat) (m m':Mg),s.1[k]?=I h->s.1[c]?=I h'->CF h m->Cc s c h' j m'->m.1≠m'.1
 own:∀(k:Nat) (h:HW),s.1[k]?=I h->∀m∈T,m.1%4=(k:Int)->m.1<4*h.1.5
 pr:∀(k:Nat) (h:HW) (j:Nat) (g:HW),k≠j->s.1[k]?=I h->s.1[j]?=I g->g.1.8 k<=h.1.7 j/\h.1.7 j<=g.1.8 k+1/\(h.1.6 j=[]->h.1.7 j=g.1.8 k)
 ar0:∀(k:Nat) (h:HW) (j:Nat),s.1[k]?=I h->(n<=j\/j=k)->h.1.8 j=0
 net:∀q∈s.2,∃k j h g,PkOk s q k j h g
section
variable{n k:Nat}{s:WSt}{T:List Mg}{h h':HW}
theorem PS(hk:s.1[k]?=I h)(j:Nat):(s.setH k h').1[j]?=if j=k then I h' else s.1[j]?:=by
 show(s.1.set k h')[j]?=_;by_cases e:j=k
 ·subst e;rw[if_pos rfl,aR (aa.1 hk).1]
 ·rw[if_neg e,bk (λq=>e q.symm)]
theorem Ah(hk:s.1[k]?=I h):(s.setH k h').1[k]?=I h':=by rw[PS hk,if_pos rfl]
theorem Ai(hk:s.1[k]?=I h){j:Nat}(e:j≠k):(s.setH k h').1[j]?=s.1[j]?:=by rw[PS hk,if_neg e]
theorem IF(a:∀(k:Nat) (h:HW),s.1[k]?=I h->h.1.3=(k:Int)){j:Nat}{g:HW}(hj:s.1[j]?=I g)(b:k<4)(e:k≠j):Z5 s k j=g.1.8 k:=by unfold Z5;rw[hj];simp only;rw[if_pos];rw[a j g hj];exact AE.2 ⟨⟨O,O⟩,O⟩
theorem F4(hk:s.1[k]?=I h)(d:h'.1.3=h.1.3)(a b:Nat)(c:b=k->h'.1.8 a=h.1.8 a):Z5 (s.setH k h') a b=Z5 s a b:=by
 unfold Z5;by_cases e:b=k
 ·subst e;rw[Ah hk,hk];simp only;rw[d,c rfl]
 ·rw[Ai hk e]
theorem Com.same(l:Com n s T)(hk:s.1[k]?=I h)(H:SameC h h')(M:h'.1.3=h.1.3):Com n (s.setH k h') T:=by
 have L:∀a b,Z5 (s.setH k h') a b=Z5 s a b:=λa b=>F4 hk M a b (λ_=>by rw[H.4]);have back:∀(j:Nat) (g:HW),(s.setH k h').1[j]?=I g->∃g0,s.1[j]?=I g0/\SameC g0 g/\g.1.3=g0.1.3:=λj g hg=>by
  by_cases e:j=k
  ·subst e;rw[Ah hk]at hg;obtain rfl:=af hg;exact⟨h,hk,H,M⟩
  ·rw[Ai hk e]at hg;exact⟨g,hg,SameC.refl g,rfl⟩
 have i:∀(j:Nat) (g0:HW),s.1[j]?=I g0->∃g,(s.setH k h').1[j]?=I g/\SameC g0 g/\g.1.3=g0.1.3:=λj g0 hg=>by
  by_cases e:j=k
  ·subst e;rw[hk]at hg;obtain rfl:=af hg;exact⟨h',Ah hk,H,M⟩
  ·exact⟨g0,by rw[Ai hk e];exact hg,SameC.refl g0,rfl⟩
 have N:∀j g g0 b m,SameC g0 g->g.1.3=g0.1.3->(Cc (s.setH k h') j g b m↔Cc s j g0 b m):=λj g g0 b m a e=>by unfold Cc;rw[e,a.w,a.2,a.3,L]
 refine⟨by show(s.1.set k h').length=n;rw[aU];exact l.1,l.2,λm=>?_,λa o b v m m' h1 h2 B D e=>?_,λa o b v j m m' h1 h2 B D=>?_,λa o h1 m hm e=>?_,λa o b v ne h1 h2=>?_,λa o j h1 h2=>?_,λq hq=>?_⟩
 ·rw[l.3];constructor
  ·rintro(⟨a,g,h1,h2⟩|⟨a,g,j,h1,h2⟩)
   ·obtain⟨c,t,d,z⟩:=i a g h1;exact aw ⟨a,c,t,(d.k m).2 h2⟩
   ·obtain⟨c,t,d,z⟩:=i a g h1;exact aG ⟨a,c,j,t,(N a c g j m d z).2 h2⟩
  ·rintro(⟨a,g,h1,h2⟩|⟨a,g,j,h1,h2⟩)
   ·obtain⟨c,t,d,z⟩:=back a g h1;exact aw ⟨a,c,t,(d.k m).1 h2⟩
   ·obtain⟨c,t,d,z⟩:=back a g h1;exact aG ⟨a,c,j,t,(N a g c j m d z).1 h2⟩
 ·obtain⟨a0,r,f,-⟩:=back a o h1;obtain⟨u,x,y,-⟩:=back b v h2;exact l.4 a a0 b u m m' r x ((f.k m).1 B) ((y.k m').1 D) e
 ·obtain⟨a0,r,f,-⟩:=back a o h1;obtain⟨u,x,y,Q⟩:=back b v h2;exact l.5 a a0 b u j m m' r x ((f.k m).1 B) ((N b v u j m' y Q).1 D)
 ·obtain⟨a0,r,f,-⟩:=back a o h1;rw[f.5];exact l.6 a a0 r m hm e
 ·obtain⟨a0,r,f,-⟩:=back a o h1;obtain⟨u,x,y,-⟩:=back b v h2;rw[f.2,f.3,y.4];exact l.7 a a0 b u ne r x
 ·obtain⟨a0,r,f,-⟩:=back a o h1;rw[f.4];exact l.8 a a0 j r h2
 ·obtain⟨a,b,g,P,p⟩:=l.9 q hq;obtain⟨c,t,d,-⟩:=i a g p.4;obtain⟨A,R,S,-⟩:=i b P p.5;refine⟨a,b,c,A,⟨p.1,p.2,p.3,t,R,p.6,p.7,λe=>?_,λe=>?_⟩⟩
  ·rw[d.4];exact p.8 e
  ·rw[d.2,S.4,d.dbl];exact p.9 e
theorem Com.nets(d:Com n s T){qs:List Pk}{lost:Int}(h:∀q∈qs,q∈s.2\/∃k j h g,PkOk s q k j h g):Com n {s with ps:=qs,lost:=lost} T:=⟨d.1,d.2,d.3,d.4,d.5,d.6,d.7,d.8,λq hq=>by
 rcases h q hq with h1|⟨k,j,a,b,c⟩
 ·obtain⟨k,j,a,b,c⟩:=d.9 q h1;exact⟨k,j,a,b,⟨c.1,c.2,c.3,c.4,c.5,c.6,c.7,c.8,c.9⟩⟩
 ·exact⟨k,j,a,b,⟨c.1,c.2,c.3,c.4,c.5,c.6,c.7,c.8,c.9⟩⟩⟩
theorem Com.rem(a:Com n s T)(i:Nat):Com n (s.rem i) T:=a.nets (lost:=s.3) (λq hq=>by
 rcases aM.1 hq with h|h
 ·exact aw (List.mem_of_mem_take h)
 ·exact aw (List.mem_of_mem_drop h))
theorem Com.send(a:Com n s T){q:Pk}(b:∃k j h g,PkOk s q k j h g):Com n (s.send q) T:=by
 unfold WSt.send;split
 ·exact a.nets (lost:=s.3) (λx hx=>by
   rcases aM.1 hx with h|h
   ·exact aw h
   ·obtain rfl:=bv.1 h;exact aG b)
 ·exact a.nets (qs:=s.2) (λx hx=>aw hx)
end
section
variable{n k:Nat}{s:WSt}{T:List Mg}{h h':HW}
theorem Com.turn(l:Com n s T)(hk:s.1[k]?=I h)(S:h'.1.3=h.1.3)(M:∀m,CF h' m↔CF h m)(t:h'.1.8=h.1.8)(P:h'.1.5=h.1.5)(N:∀j m,Cc s k h' j m↔Cc s k h j m)(Q:∀(j:Nat) (g:HW),k≠j->s.1[j]?=I g->g.1.8 k<=h'.1.7 j/\h'.1.7 j<=g.1.8 k+1/\(h'.1.6 j=[]->h'.1.7 j=g.1.8 k))(R:∀q∈s.2,∀j g,PkOk s q k j h g->q.3=ai->q.2<=h'.1.7 j/\(g.1.8 k<q.2->q.4=Cb h'.1 j)):Com n (s.setH k h') T:=by
 have w:∀a b,Z5 (s.setH k h') a b=Z5 s a b:=λa b=>F4 hk S a b (λ_=>by rw[t]);have x:∀a g b m,Cc (s.setH k h') a g b m↔Cc s a g b m:=λa g b m=>by unfold Cc;rw[w]
 have back:∀(j:Nat) (g:HW),(s.setH k h').1[j]?=I g->(j=k/\g=h')\/(j≠k/\s.1[j]?=I g):=λj g hg=>by
  by_cases e:j=k
  ·subst e;rw[Ah hk]at hg;exact aw ⟨rfl,(af hg).symm⟩
  ·rw[Ai hk e]at hg;exact aG ⟨e,hg⟩
 have f:∀(a:Nat) (g:HW) m,(s.setH k h').1[a]?=I g->CF g m->∃g0,s.1[a]?=I g0/\CF g0 m:=λa g m h1 h2=>by
  rcases back a g h1 with⟨rfl,rfl⟩|⟨-,d⟩
  ·exact⟨h,hk,(M m).1 h2⟩
  ·exact⟨g,d,h2⟩
 have p:∀(a:Nat) (g:HW) b m,(s.setH k h').1[a]?=I g->Cc (s.setH k h') a g b m->∃g0,s.1[a]?=I g0/\Cc s a g0 b m:=λa g b m h1 h2=>by
  rw[x]at h2;rcases back a g h1 with⟨rfl,rfl⟩|⟨-,d⟩
  ·exact⟨h,hk,(N b m).1 h2⟩
  ·exact⟨g,d,h2⟩
 refine⟨by show(s.1.set k h').length=n;rw[aU];exact l.1,l.2,λm=>?_,λa i b o m m' h1 h2 d r e=>?_,λa i b o j m m' h1 h2 d r=>?_,λa i h1 m hm e=>?_,λa i b o ne h1 h2=>?_,λa i j h1 h2=>?_,λq hq=>?_⟩
 ·rw[l.3];constructor
  ·rintro(⟨a,g,h1,h2⟩|⟨a,g,j,h1,h2⟩)
   ·by_cases e:a=k
    ·subst e;rw[hk]at h1;obtain rfl:=af h1;exact aw ⟨a,h',Ah hk,(M m).2 h2⟩
    ·exact aw ⟨a,g,by rw[Ai hk e];exact h1,h2⟩
   ·by_cases e:a=k
    ·subst e;rw[hk]at h1;obtain rfl:=af h1;exact aG ⟨a,h',j,Ah hk,(x _ _ _ _).2 ((N j m).2 h2)⟩
    ·exact aG ⟨a,g,j,by rw[Ai hk e];exact h1,(x _ _ _ _).2 h2⟩
  ·rintro(⟨a,g,h1,h2⟩|⟨a,g,j,h1,h2⟩)
   ·obtain⟨g0,D,H⟩:=f a g m h1 h2;exact aw ⟨a,g0,D,H⟩
   ·obtain⟨g0,D,H⟩:=p a g j m h1 h2;exact aG ⟨a,g0,j,D,H⟩
 ·obtain⟨a0,y,z⟩:=f a i m h1 d;obtain⟨v,A,B⟩:=f b o m' h2 r;exact l.4 a a0 b v m m' y A z B e
 ·obtain⟨a0,y,z⟩:=f a i m h1 d;obtain⟨v,A,B⟩:=p b o j m' h2 r;exact l.5 a a0 b v j m m' y A z B
 ·rcases back a i h1 with⟨rfl,rfl⟩|⟨-,d⟩
  ·rw[P];exact l.6 a h hk m hm e
  ·exact l.6 a i d m hm e
 ·rcases back a i h1 with⟨rfl,rfl⟩|⟨-,d⟩
  ·rcases back b o h2 with⟨rfl,-⟩|⟨-,r⟩
   ·exact absurd rfl ne
   ·exact Q b o ne r
  ·rcases back b o h2 with⟨rfl,rfl⟩|⟨-,r⟩
   ·rw[t];exact l.7 a i b h ne d hk
   ·exact l.7 a i b o ne d r
 ·rcases back a i h1 with⟨rfl,rfl⟩|⟨-,d⟩
  ·rw[t];exact l.8 a h j hk h2
  ·exact l.8 a i j d h2
 ·obtain⟨a,b,g,u,c⟩:=l.9 q hq;by_cases e:a=k
  ·subst e;have hg:g=h:=af (c.4.symm.trans hk);subst hg;refine⟨a,b,h',u,⟨c.1,c.2,c.3,Ah hk,by rw[Ai hk (λq=>c.3 q.symm)];exact c.5,c.6,c.7,λe=>?_,λe=>R q hq b u c e⟩⟩;rw[t];exact c.8 e
  ·by_cases L:b=k
   ·subst L;have hg:u=h:=af (c.5.symm.trans hk);subst hg;refine⟨a,b,g,h',⟨c.1,c.2,c.3,by rw[Ai hk e];exact c.4,Ah hk,c.6,c.7,c.8,λe=>?_⟩⟩;rw[t];exact c.9 e
   ·exact⟨a,b,g,u,⟨c.1,c.2,c.3,by rw[Ai hk e];exact c.4,by rw[Ai hk L];exact c.5,c.6,c.7,c.8,c.9⟩⟩
theorem Com.made(u:Com n s T)(w:∀(k:Nat) (h:HW),s.1[k]?=I h->h.1.3=(k:Int))(x:k<4)(hk:s.1[k]?=I h){j:Nat}{g:HW}(hj:s.1[j]?=I g)(o:k≠j)(l:h.1.6 j=[])(y:Bb h.1 j≠[])(e:h'.1=FG h.1 j):Com n (s.setH k h') T:=by
 obtain⟨-,-,B⟩:=u.7 k h j g o hk hj;have B:=B l;have v:=IF w hj x o;have c:∀b,b≠j->h'.1.7 b=h.1.7 b/\h'.1.6 b=h.1.6 b:=λb f=>by rw[e];exact⟨Ab _ _ f,Ab _ _ f⟩
 have d:h'.1.7 j=h.1.7 j+1/\h'.1.6 j=Bb h.1 j:=by rw[e];exact⟨Ae _ _ _,Ae _ _ _⟩
 have t:h'.1.Q=h.1.Q:=by rw[e];rfl
 refine u.turn hk (by rw[e];rfl) (λm=>by unfold CF;rw[t]) (by rw[e];rfl) (by rw[e];rfl) (λb m=>?_) (λb r f hg=>?_) (λq hq b r z A=>?_)
 ·unfold Cc D7;rw[t,show h'.1.3=h.1.3 by rw[e];rfl];by_cases f:b=j
  ·subst f;rw[d.1,d.2,l,v];constructor
   ·rintro⟨p,a2,a3⟩;exact⟨p,a2,λq=>by cases q.2⟩
   ·rintro⟨p,a2,a3⟩;exact⟨p,a2,λq=>by have:=q.1;omega⟩
  ·rw[(c b f).1,(c b f).2]
 ·by_cases a:b=j
  ·subst a;have i:r=g:=af (hg.symm.trans hj);subst i;rw[d.1,d.2];exact⟨O,O,λq=>absurd q y⟩
  ·rw[(c b a).1,(c b a).2];exact u.7 k h b r f hk hg
 ·by_cases a:b=j
  ·subst a;have i:r=g:=af (z.5.symm.trans hj);subst i;obtain⟨p,a2⟩:=z.9 A;rw[d.1];exact⟨O,λq=>O⟩
  ·rw[(c b a).1];have D:Cb h'.1 b=Cb h.1 b:=by rw[B7,B7,t,(c b a).2]
   rw[D];exact z.9 A
theorem Com.came(y:Com n s T)(A:∀(k:Nat) (h:HW),s.1[k]?=I h->h.1.3=(k:Int))(B:k<4)(hk:s.1[k]?=I h){j:Nat}{g:HW}(hj:s.1[j]?=I g)(p:k≠j)(D:h.1.7 j<=g.1.8 k)(e:h'.1=I3 h.1 j):Com n (s.setH k h') T:=by
 obtain⟨P,R,-⟩:=y.7 k h j g p hk hj;have z:=IF A hj B p;have c:∀b,b≠j->h'.1.6 b=h.1.6 b:=λb f=>by rw[e];exact Ab _ _ f
 have x:h'.1.6 j=[]:=by rw[e];exact Ae _ _ _
 have d:h'.1.7=h.1.7:=by rw[e];rfl
 have r:∀l,l≠aL j->h'.1.Q l=h.1.Q l:=λl N=>by rw[e];exact BB _ _ N
 have w:h'.1.Q (aL j)=Al (h.1.6 j) (h.1.Q (aL j)):=by rw[e];exact Dx _ _ _
 refine y.turn hk (by rw[e];rfl) (λm=>?_) (by rw[e];rfl) (by rw[e];rfl) (λb m=>?_) (λb t f hg=>?_) (λq hq b t H L=>?_)
 ·unfold CF;constructor
  ·rintro⟨u,v⟩;rw[r _ oS]at v;exact⟨u,v⟩
  ·rintro⟨u,v⟩;exact⟨u,by rw[r _ oS];exact v⟩
 ·unfold Cc D7;rw[show h'.1.3=h.1.3 by rw[e];rfl,d];by_cases f:b=j
  ·subst f;rw[x,w,Bz,Bt,z];constructor
   ·rintro⟨o,⟨a2,a3⟩,-⟩;exact⟨o,a2,λq=>a3 q.2⟩
   ·rintro⟨o,a2,a3⟩;exact⟨o,⟨a2,λq=>a3 ⟨D,q⟩⟩,λq=>by cases q.2⟩
  ·rw[c b f,r _ (λq=>f (bO q))]
 ·rw[d];by_cases a:b=j
  ·subst a;have i:t=g:=af (hg.symm.trans hj);subst i;exact⟨P,R,λ_=>O⟩
  ·rw[c b a];exact y.7 k h b t f hk hg
 ·rw[d];by_cases a:b=j
  ·subst a;have i:t=g:=af (H.5.symm.trans hj);subst i;obtain⟨o,a2⟩:=H.9 L;exact⟨o,λq=>O⟩
  ·have M:Cb h'.1 b=Cb h.1 b:=by rw[B7,B7,r _ (λq=>a (bO q)),c b a]
   rw[M];exact H.9 L
end
section
variable{n k r:Nat}{s:WSt}{T:List Mg}{h h' f:HW}
theorem pt_iff(h:HW)(l:List Mg)(m:Mg):(m∈Fa h l\/m∈E9 h l)↔m∈l:=by have h1:=(Uq h.2 (λs=>h.1.Q (aJ s)) l l.length (ag _)).1;have h2:=(Ur h.2 (λs=>h.1.Q (aJ s)) l l.length (ag _)).2;rw[aK (ag _)]at h1 h2;exact⟨h1 m,h2 m⟩
theorem T0(c:ES s){a b d b':Nat}{g j:HW}{m m':Mg}(h1:s.1[a]?=I g)(h2:s.1[d]?=I j)(w1:D7 g b m)(D:D7 j b' m')(e:m.1=m'.1):a=d/\b=b'/\m=m':=by
 obtain⟨i,p,l⟩:=c a g h1;obtain⟨H,L,u⟩:=c d j h2;obtain⟨x,x1,x2,x3⟩:=CP w1;obtain⟨y,t,M,o⟩:=CP D;have A:=l.1.q.4 b x x1;have B:=u.1.q.4 b' y t;rw[x3,l.2]at A;rw[o,u.2,<-e]at B;have v:a=d:=O;subst v;have w:j=g:=af (h2.symm.trans h1);subst w;have eb:b=b':=by apply bi;intro z;exact l.1.q.2 (aL b) (aL b') x y (λq=>z (bO q)) x1 t (by rw[x3,o];exact e)
 subst eb;have:=Z4 (l.1.q.1 _).2 x1 t (by rw[x3,o];exact e);exact⟨rfl,rfl,by rw[<-x3,<-o,this]⟩
theorem Com.arr(y:Com n s T)(a8:ES s)(c:s.1[r]?=I h)(hk:s.1[k]?=I f)(W:k≠r)(b5:n<=4){l:List Mg}(hl:l=Cb f.1 r)(b4:f.1.7 r=h.1.8 k+1)(X:h'.1=J5 h.1 k (Fa h l) (E9 h l)):Com n (s.setH r h') T:=by
 have a6:∀(k:Nat) (h:HW),s.1[k]?=I h->h.1.3=(k:Int):=λk h hk=>by obtain⟨i,p,o⟩:=a8 k h hk;exact o.2
 have b3:k<n:=by rw[<-y.1];exact(aa.1 hk).1
 have b6:r<n:=by rw[<-y.1];exact(aa.1 c).1
 obtain⟨fi,fp,fo⟩:=a8 k f hk;have S:h'.1.3=h.1.3:=by rw[X];rfl
 have U:h'.1.7=h.1.7:=by rw[X];rfl
 have R:h'.1.6=h.1.6:=by rw[X];rfl
 have a5:h'.1.5=h.1.5:=by rw[X];rfl
 have P:∀a,a≠k->h'.1.8 a=h.1.8 a:=λa v=>by rw[X];exact Ab _ _ v
 have H:h'.1.8 k=h.1.8 k+1:=by rw[X];exact Ae _ _ _
 have a4:∀j,h'.1.Q (aL j)=h.1.Q (aL j):=λj=>by rw[X];rfl
 have N:∀u,Ap (h'.1.Q (aJ u))=Ap (h.1.Q (aJ u))++FC u (Fa h l)++(if u=AF then(E9 h l).map fr else []):=λu=>by rw[X];exact IX u
 have a7:∀m,m∈l↔D7 f r m/\m.1∈f.1.6 r:=λm=>by rw[hl];exact IL (fo.1.q.1 _)
 have hK:∀m,CF h' m↔CF h m\/m∈l:=λm=>by
  unfold CF;constructor
  ·rintro⟨u,A⟩;rw[N]at A;rcases aM.1 A with A|A
   ·rcases aM.1 A with A|A
    ·exact aw ⟨u,A⟩
    ·obtain⟨x,h1,-,t⟩:=Gn.1 A;have:m=x:=by injection t
     subst this;exact aG ((pt_iff h l m).1 (aw h1))
   ·split at A
    ·obtain⟨x,h1,t⟩:=bt.1 A;have:x=m:=by injection t
     subst this;exact aG ((pt_iff h l x).1 (aG h1))
    ·cases A
  ·rintro(⟨u,A⟩|hm)
   ·exact⟨u,by rw[N];exact bD _ (bD _ A)⟩
   ·rcases(pt_iff h l m).2 hm with h1|h1
    ·exact⟨m.4,by rw[N];exact bD _ (bL _ (Gn.2 ⟨m,h1,rfl,rfl⟩))⟩
    ·exact⟨AF,by rw[N,if_pos rfl];exact bL _ (bt.2 ⟨m,h1,rfl⟩)⟩
 have V:∀a b,(a≠k\/b≠r)->Z5 (s.setH r h') a b=Z5 s a b:=λa b b2=>F4 c S a b (λw=>P a (b2.elim id (λq=>absurd w q)));have b0:Z5 (s.setH r h') k r=h.1.8 k+1:=by unfold Z5;rw[Ah c];simp only;rw[if_pos,H];rw[S,a6 r h c];exact AE.2 ⟨⟨O,O⟩,O⟩
 have L:Z5 s k r=h.1.8 k:=IF a6 c O W;have back:∀(j:Nat) (g:HW),(s.setH r h').1[j]?=I g->(j=r/\g=h')\/(j≠r/\s.1[j]?=I g):=λj g hg=>by
  by_cases e:j=r
  ·subst e;rw[Ah c]at hg;exact aw ⟨rfl,(af hg).symm⟩
  ·rw[Ai c e]at hg;exact aG ⟨e,hg⟩
 have a0:∀(a:Nat) (g:HW) b m,(s.setH r h').1[a]?=I g->Cc (s.setH r h') a g b m->∃g0,s.1[a]?=I g0/\Cc s a g0 b m/\(a=k->b=r->m.1∉f.1.6 r):=λa g b m h1 h2=>by
  rcases back a g h1 with⟨rfl,rfl⟩|⟨v,t⟩
  ·refine⟨h,c,?_,λq=>absurd q (λq=>W q.symm)⟩;unfold Cc D7 at h2⊢;rw[S,a4,U,R,V a b (aw (λq=>W q.symm))]at h2;exact h2
  ·by_cases w:a=k/\b=r
   ·obtain⟨rfl,rfl⟩:=w;have hg:g=f:=af (t.symm.trans hk);subst hg;obtain⟨a1,a2,a3⟩:=h2;rw[b0]at a3;refine⟨g,hk,⟨a1,a2,λq=>?_⟩,λ_ _ q=>a3 ⟨O,q⟩⟩;rw[L]at q;have:=q.1;omega
   ·refine⟨g,t,?_,λq1 M=>absurd ⟨q1,M⟩ w⟩;unfold Cc at h2⊢;rw[V a b (by by_cases q:a=k;exact aG (λM=>w ⟨q,M⟩);exact aw q)]at h2;exact h2
 have B:∀m,m∈l->Cc s k f r m:=λm hm=>by
  refine⟨?_,((a7 m).1 hm).1,λq=>?_⟩
  ·rw[a6 k f hk];exact AE.2 ⟨⟨O,O⟩,O⟩
  ·rw[L]at q;have:=q.1;omega
 refine⟨by show(s.1.set r h').length=n;rw[aU];exact y.1,y.2,λm=>?_,λa v b w m m' h1 h2 t z e=>?_,λa v b w j m m' h1 h2 t z e=>?_,λa v h1 m hm e=>?_,λa v b w ne h1 h2=>?_,λa v j h1 h2=>?_,λq hq=>?_⟩
 ·rw[y.3];constructor
  ·rintro(⟨a,g,h1,h2⟩|⟨a,g,b,h1,h2⟩)
   ·by_cases e:a=r
    ·subst e;have hg:g=h:=af (h1.symm.trans c);subst hg;exact aw ⟨a,h',Ah c,(hK m).2 (aw h2)⟩
    ·exact aw ⟨a,g,by rw[Ai c e];exact h1,h2⟩
   ·by_cases e:a=r
    ·subst e;have hg:g=h:=af (h1.symm.trans c);subst hg;refine aG ⟨a,h',b,Ah c,?_⟩;unfold Cc D7 at h2⊢;rw[S,a4,U,R,V a b (aw (λq=>W q.symm))];exact h2
    ·by_cases w:a=k/\b=r
     ·obtain⟨rfl,rfl⟩:=w;have hg:g=f:=af (h1.symm.trans hk);subst hg;obtain⟨a1,a2,a3⟩:=h2;by_cases hd:m.1∈g.1.6 b
      ·exact aw ⟨b,h',Ah c,(hK m).2 (aG ((a7 m).2 ⟨a2,hd⟩))⟩
      ·exact aG ⟨a,g,b,by rw[Ai c e];exact h1,⟨a1,a2,λq=>hd q.2⟩⟩
     ·refine aG ⟨a,g,b,by rw[Ai c e];exact h1,?_⟩;unfold Cc at h2⊢;rw[V a b (by by_cases q:a=k;exact aG (λM=>w ⟨q,M⟩);exact aw q)];exact h2
  ·rintro(⟨a,g,h1,h2⟩|⟨a,g,b,h1,h2⟩)
   ·rcases back a g h1 with⟨rfl,rfl⟩|⟨-,t⟩
    ·rcases(hK m).1 h2 with z|z
     ·exact aw ⟨a,h,c,z⟩
     ·exact aG ⟨k,f,a,hk,B m z⟩
    ·exact aw ⟨a,g,t,h2⟩
   ·obtain⟨g0,q1,M,-⟩:=a0 a g b m h1 h2;exact aG ⟨a,g0,b,q1,M⟩
 ·rcases back a v h1 with⟨rfl,rfl⟩|⟨e1,h5⟩
  ·rcases back b w h2 with⟨rfl,-⟩|⟨e2,h6⟩
   ·rfl
   ·rcases(hK m).1 t with D|D
    ·exact y.4 a h b w m m' c h6 D z e
    ·exact absurd e.symm (y.5 b w k f a m' m h6 hk z (B m D))
  ·rcases back b w h2 with⟨rfl,rfl⟩|⟨e2,h6⟩
   ·rcases(hK m').1 z with D|D
    ·exact y.4 a v b h m m' h5 c t D e
    ·exact absurd e (y.5 a v k f b m m' h5 hk t (B m' D))
   ·exact y.4 a v b w m m' h5 h6 t z e
 ·obtain⟨g0,q1,M,q3⟩:=a0 b w j m' h2 z;rcases back a v h1 with⟨rfl,rfl⟩|⟨e1,h5⟩
  ·rcases(hK m).1 t with D|D
   ·exact y.5 a h b g0 j m m' c q1 D M e
   ·obtain⟨rfl,rfl,rfl⟩:=T0 a8 hk q1 (B m D).2.1 M.2.1 e;exact q3 rfl rfl ((a7 m).1 D).2
  ·exact y.5 a v b g0 j m m' h5 q1 t M e
 ·rcases back a v h1 with⟨rfl,rfl⟩|⟨-,t⟩
  ·rw[a5];exact y.6 a h c m hm e
  ·exact y.6 a v t m hm e
 ·rcases back a v h1 with⟨rfl,rfl⟩|⟨-,t⟩
  ·rcases back b w h2 with⟨rfl,-⟩|⟨-,z⟩
   ·exact absurd rfl ne
   ·rw[U,R];exact y.7 a h b w ne c z
  ·rcases back b w h2 with⟨rfl,rfl⟩|⟨-,z⟩
   ·by_cases a9:a=k
    ·subst a9;have hg:v=f:=af (t.symm.trans hk);subst hg;rw[H];exact⟨O,O,λ_=>O⟩
    ·rw[P a a9];exact y.7 a v b h ne t c
   ·exact y.7 a v b w ne t z
 ·rcases back a v h1 with⟨rfl,rfl⟩|⟨-,t⟩
  ·rw[P j O];exact y.8 a h j c h2
  ·exact y.8 a v j t h2
 ·obtain⟨a,b,g,g2,d⟩:=y.9 q hq;have b1:∀x,h.1.8 x<=h'.1.8 x:=λx=>by
   by_cases hx:x=k
   ·subst hx;rw[H];omega
   ·rw[P x hx];exact bg _
  by_cases e1:a=r
  ·subst e1;have hg:g=h:=af (d.4.symm.trans c);subst hg;refine⟨a,b,h',g2,⟨d.1,d.2,d.3,Ah c,by rw[Ai c (λq=>d.3 q.symm)];exact d.5,d.6,d.7,λe=>⟨(d.8 e).1,bI (d.8 e).2 (b1 b)⟩,λe=>?_⟩⟩;have ed:Cb h'.1 b=Cb g.1 b:=by rw[B7,B7,a4,R]
   rw[U,ed];exact d.9 e
  ·by_cases e2:b=r
   ·subst e2;have hg:g2=h:=af (d.5.symm.trans c);subst hg;exact⟨a,b,g,h',⟨d.1,d.2,d.3,by rw[Ai c e1];exact d.4,Ah c,d.6,d.7,d.8,λe=>⟨(d.9 e).1,λq=>(d.9 e).2 (Int.lt_of_le_of_lt (b1 a) q)⟩⟩⟩
   ·exact⟨a,b,g,g2,⟨d.1,d.2,d.3,by rw[Ai c e1];exact d.4,by rw[Ai c e2];exact d.5,d.6,d.7,d.8,d.9⟩⟩
end
def Pend(s:WSt)(T:List Mg):Prop:=∀(k:Nat) (h:HW),s.1[k]?=I h->∀u,u<5->∀m∈Aj (h.1.2 u),∀t∈T,t.1≠m.1
def Gu(T:List Mg)(ds:List Dd):List Mg:=(T.filter λm=>aY (m.1∉An ds))++Aj ds
theorem mem_overT{T:List Mg}{ds:List Dd}{m:Mg}:m∈Gu T ds↔(m∈T/\m.1∉An ds)\/m∈Aj ds:=by unfold Gu;rw[aM,bH,decide_eq_true_eq]
section
variable{n k i p:Nat}{s:WSt}{T:List Mg}{h h':HW}
theorem S6{A B:List Pl}{ids:List Int}(b:∀x∈B,x.m.1∉ids):((AA (A++B)).map dm).filter (λm=>aY (m.1∈ids))=((AA A).map dm).filter λm=>aY (m.1∈ids):=by
 have e:∀C:List Pl,((AA C).map dm).filter (λm=>aY (m.1∈ids))=(AA (C.filter λx=>aY (x.m.1∈ids))).map Pl.m:=λC=>by unfold AA;rw[C0,List.filter_map];rfl
 have a:B.filter (λx=>aY (x.m.1∈ids))=[]:=List.filter_eq_nil_iff.2 (λx hx=>by simpa using b x hx);rw[e,e,List.filter_append,a,bG]
theorem Qr{Q:DM->List Pl}{did:Nat->List Dd}{id cnt:Int}(hq:QI Q did id cnt){u:Nat}(c:u<5)(j:Nat):D1 (aL j) (did u)=[]:=by apply List.eq_nil_iff_forall_not_mem.2;intro z e;obtain⟨d,h1,h2,b,-⟩:=Cr.1 e;obtain⟨t,a,-⟩:=hq.7 u d c h1 h2;rw[b]at a;cases a
theorem Yj(b:HOk h k i p){u:Nat}(v:u<5)(j:∀l,h'.1.Q l=BZ h.1.Q u (h.1.2 u) l)(m:Mg):CF h' m↔(CF h m/\m.1∉An (h.1.2 u))\/∃t,(∃d∈h.1.2 u,d.1=aE/\d.3=aJ t/\d.m=m):=by
 unfold CF;constructor
 ·rintro⟨t,a⟩;rw[j,D8,aM]at a;rcases a with a|a
  ·obtain⟨h1,h2⟩:=Bt.1 a;refine aw ⟨⟨t,h1⟩,λq=>?_⟩;obtain⟨d,c,e,f⟩:=CJ.1 q;obtain⟨z,w,y⟩:=b.1.q.7 u d v c e;obtain⟨x,x1,x2,x3⟩:=CP h1;obtain⟨o,-⟩:=b.1.q.one y x1 (by rw[x3];exact f);subst o;exact h2 (Cr.2 ⟨d,c,e,w,f⟩)
  ·obtain⟨d,h1,h2,g,r⟩:=CI.1 a;have:m=d.m:=by injection r
   exact aG ⟨t,d,h1,h2,g,this.symm⟩
 ·rintro(⟨⟨t,h1⟩,h2⟩|⟨t,d,h1,h2,g,rfl⟩)
  ·refine⟨t,?_⟩;rw[j,D8];refine bD _ (Bt.2 ⟨h1,λq=>h2 ?_⟩);obtain⟨d,c,e,-,f⟩:=Cr.1 q;exact CJ.2 ⟨d,c,e,f⟩
  ·refine⟨t,?_⟩;rw[j,D8];exact bL _ (CI.2 ⟨d,h1,h2,g,rfl⟩)
theorem YF(b:HOk h k i p){u:Nat}(f:u<5)(e:∀l,h'.1.Q l=BZ h.1.Q u (h.1.2 u) l)(j:Nat)(m:Mg):D7 h' j m↔D7 h j m\/∃d∈h.1.2 u,d.1=aE/\d.3=aL j/\d.m=m:=by
 unfold D7;rw[e,D8,Qr b.1.q f,aM];show fr m∈Ap (h.1.Q (aL j))\/_↔_;refine or_congr Iff.rfl ?_;rw[CI];constructor
 ·rintro⟨d,h1,h2,a,c⟩;have:m=d.m:=by injection c
  exact⟨d,h1,h2,a,this.symm⟩
 ·rintro⟨d,h1,h2,a,rfl⟩;exact⟨d,h1,h2,a,rfl⟩
theorem KY(a:HOk h k i p){u:Nat}(f:u<5){d:Dd}(c:d∈h.1.2 u)(e:d.1=aE){j:Nat}(hj:d.3=aL j):d.m.1∉h.1.6 j:=λq=>by obtain⟨g,b,l⟩:=a.1.q.6 u d f c e;obtain⟨x,x1,x2,x3⟩:=a.1.16 j _ q;rw[hj]at b;have:=Z4 (a.1.q.1 _).2 x1 b x2;rw[this]at x3;simp only at x3;omega
theorem Com.over(D:Com n s T)(b3:ES s)(hP:Pend s T)(hk:s.1[k]?=I h){u:Nat}(R:u<5)(he:h'.1=I6 h.1 u):Com n (s.setH k h') (Gu T (h.1.2 u)):=by
 obtain⟨i,p,L⟩:=b3 k h hk;have a5:h'.1.3=h.1.3:=by rw[he];rfl
 have a0:h'.1.7=h.1.7:=by rw[he];rfl
 have X:h'.1.6=h.1.6:=by rw[he];rfl
 have S:h'.1.8=h.1.8:=by rw[he];rfl
 have U:h'.1.5=Bq h.1.5 (h.1.2 u):=by rw[he];rfl
 have eQ:∀l,h'.1.Q l=BZ h.1.Q u (h.1.2 u) l:=λl=>by rw[he];rfl
 obtain⟨b1,b2,-⟩:=Eu (h.1.2 u) h.1.5;have hK:=Yj L R eQ;have hW:=YF L R eQ;have a6:∀a b,Z5 (s.setH k h') a b=Z5 s a b:=λa b=>F4 hk a5 a b (λ_=>by rw[S]);have w:∀d∈h.1.2 u,d.1=aE->d.m∈Aj (h.1.2 u)/\d.3=A9 h.1.3 d.m/\d.m.1%4=(k:Int):=λd hd o=>by obtain⟨v,r,N⟩:=L.1.q.6 u d R hd o;rw[L.2]at N;exact⟨AZ.2 ⟨d,hd,o,rfl⟩,v,N⟩
 have a7:∀z∈An (h.1.2 u),∃m,CF h m/\m.1=z:=λz hz=>by obtain⟨d,v,r,N⟩:=CJ.1 hz;obtain⟨t,-,q5⟩:=L.1.q.7 u d R v r;exact⟨d.m,⟨t,A7.2 ⟨_,q5,by simp[bf],rfl⟩⟩,N⟩
 have hN:∀j m,Cc (s.setH k h') k h' j m↔Cc s k h j m\/∃d∈h.1.2 u,d.1=aE/\d.3=aL j/\d.m=m:=λj m=>by
  unfold Cc;rw[a5,a0,X,a6,hW];constructor
  ·rintro⟨a1,a2|a2,a3⟩
   ·exact aw ⟨a1,a2,a3⟩
   ·exact aG a2
  ·rintro(⟨a1,a2,a3⟩|⟨d,h1,h2,f,rfl⟩)
   ·exact⟨a1,aw a2,a3⟩
   ·refine⟨?_,aG ⟨d,h1,h2,f,rfl⟩,λq=>KY L R h1 h2 f q.2⟩;obtain⟨v,r,-⟩:=L.1.q.6 u d R h1 h2;have hr:=(L.1.q.1 _).1 _ r;rw[v]at f;unfold A9 at f;split at f
    ·cases f
    ·rename_i hne;have e:=bO f;simp[right,J2]at hr;refine AE.2 ⟨⟨O,O⟩,?_⟩;omega
 have hn:∀a g b m,Cc (s.setH k h') a g b m↔Cc s a g b m:=λa g b m=>by unfold Cc;rw[a6]
 have back:∀(j:Nat) (g:HW),(s.setH k h').1[j]?=I g->(j=k/\g=h')\/(j≠k/\s.1[j]?=I g):=λj g hg=>by
  by_cases e:j=k
  ·subst e;rw[Ah hk]at hg;exact aw ⟨rfl,(af hg).symm⟩
  ·rw[Ai hk e]at hg;exact aG ⟨e,hg⟩
 have H:∀(a:Nat) (g:HW) m,(s.setH k h').1[a]?=I g->CF g m->(∃g0,s.1[a]?=I g0/\CF g0 m/\m.1∉An (h.1.2 u))\/(a=k/\∃t,∃d∈h.1.2 u,d.1=aE/\d.3=aJ t/\d.m=m):=λa g m h1 h2=>by
  rcases back a g h1 with⟨rfl,rfl⟩|⟨y,f⟩
  ·rcases(hK m).1 h2 with⟨f,A⟩|f
   ·exact aw ⟨h,hk,f,A⟩
   ·exact aG ⟨rfl,f⟩
  ·refine aw ⟨g,f,h2,λq=>?_⟩;obtain⟨x,x1,x2⟩:=a7 _ q;exact y (D.4 a g k h m x f hk h2 x1 x2.symm)
 have W:∀(a:Nat) (g:HW) b m,(s.setH k h').1[a]?=I g->Cc (s.setH k h') a g b m->(∃g0,s.1[a]?=I g0/\Cc s a g0 b m/\m.1∉An (h.1.2 u))\/(a=k/\∃d∈h.1.2 u,d.1=aE/\d.3=aL b/\d.m=m):=λa g b m h1 h2=>by
  have nt:∀g0,s.1[a]?=I g0->Cc s a g0 b m->m.1∉An (h.1.2 u):=λg0 v r q=>by obtain⟨x,x1,x2⟩:=a7 _ q;exact D.5 k h a g0 b x m hk v x1 r x2
  rcases back a g h1 with⟨rfl,rfl⟩|⟨y,f⟩
  ·rcases(hN b m).1 h2 with f|f
   ·exact aw ⟨h,hk,f,nt h hk f⟩
   ·exact aG ⟨rfl,f⟩
  ·have A:=(hn a g b m).1 h2;exact aw ⟨g,f,A,nt g f A⟩
 have a4:∀(a:Nat) (g:HW) m,s.1[a]?=I g->CF g m->m∈T:=λa g m h1 h2=>(D.3 m).2 (aw ⟨a,g,h1,h2⟩);have a8:∀(a:Nat) (g:HW) b m,s.1[a]?=I g->Cc s a g b m->m∈T:=λa g b m h1 h2=>(D.3 m).2 (aG ⟨a,g,b,h1,h2⟩);have V:=hP k h hk u R;have one:∀d∈h.1.2 u,d.1=aE->∀c∈h.1.2 u,c.1=aE->d.m.1=c.m.1->d.m=c.m:=λd hd b0 c hc a9 e=>by
  obtain⟨v,r,-⟩:=L.1.q.6 u d R hd b0;obtain⟨M,B,-⟩:=L.1.q.6 u c R hc a9;by_cases hl:d.3=c.3
  ·rw[<-hl]at B;have:=Z4 (L.1.q.1 _).2 r B e;injection this
  ·exact absurd e (L.1.q.2 _ _ _ _ hl r B)
 refine⟨by show(s.1.set k h').length=n;rw[aU];exact D.1,?_,λm=>?_,λa y b P m m' h1 h2 f A e=>?_,λa y b P j m m' h1 h2 f A e=>?_,λa y h1 m hm e=>?_,λa y b P ne h1 h2=>?_,λa y j h1 h2=>?_,λq hq=>?_⟩
 ·unfold Gu;rw[aI];exact⟨D.2.filter _,L.1.q.8 u R,λa y b P=>V b P a (bH.1 y).1⟩
 ·rw[mem_overT,D.3];constructor
  ·rintro(⟨⟨a,g,h1,h2⟩|⟨a,g,j,h1,h2⟩,f⟩|hm)
   ·by_cases e:a=k
    ·subst e;have hg:g=h:=af (h1.symm.trans hk);subst hg;exact aw ⟨a,h',Ah hk,(hK m).2 (aw ⟨h2,f⟩)⟩
    ·exact aw ⟨a,g,by rw[Ai hk e];exact h1,h2⟩
   ·by_cases e:a=k
    ·subst e;have hg:g=h:=af (h1.symm.trans hk);subst hg;exact aG ⟨a,h',j,Ah hk,(hN j m).2 (aw h2)⟩
    ·exact aG ⟨a,g,j,by rw[Ai hk e];exact h1,(hn _ _ _ _).2 h2⟩
   ·obtain⟨d,h1,h2,rfl⟩:=AZ.1 hm;cases hl:d.3 with
    |inl t=>exact .inl ⟨k,h',Ah hk,(hK d.m).2 (.inr ⟨t,d,h1,h2,hl,rfl⟩)⟩
    |inr j=>exact .inr ⟨k,h',j,Ah hk,(hN j d.m).2 (.inr ⟨d,h1,h2,hl,rfl⟩)⟩
  ·rintro(⟨a,g,h1,h2⟩|⟨a,g,j,h1,h2⟩)
   ·rcases H a g m h1 h2 with⟨g0,v,r,N⟩|⟨-,t,d,v,r,-,rfl⟩
    ·exact aw ⟨aw ⟨a,g0,v,r⟩,N⟩
    ·exact aG (w d v r).1
   ·rcases W a g j m h1 h2 with⟨g0,v,r,N⟩|⟨-,d,v,r,-,rfl⟩
    ·exact aw ⟨aG ⟨a,g0,j,v,r⟩,N⟩
    ·exact aG (w d v r).1
 ·rcases H a y m h1 f with⟨g0,v,r,-⟩|⟨ea,t,d,v,r,-,rfl⟩
  ·rcases H b P m' h2 A with⟨g1,M,B,-⟩|⟨eb,t,d,M,B,-,rfl⟩
   ·exact D.4 a g0 b g1 m m' v M r B e
   ·exact absurd e (V _ (w d M B).1 m (a4 a g0 m v r))
  ·rcases H b P m' h2 A with⟨g1,M,B,-⟩|⟨eb,-⟩
   ·exact absurd e.symm (V _ (w d v r).1 m' (a4 b g1 m' M B))
   ·rw[ea,eb]
 ·rcases H a y m h1 f with⟨g0,v,r,-⟩|⟨ea,t,d,v,r,N,rfl⟩
  ·rcases W b P j m' h2 A with⟨g1,M,B,-⟩|⟨eb,d,M,B,-,rfl⟩
   ·exact D.5 a g0 b g1 j m m' v M r B e
   ·exact V _ (w d M B).1 m (a4 a g0 m v r) e
  ·rcases W b P j m' h2 A with⟨g1,M,B,-⟩|⟨eb,c,M,B,r3,rfl⟩
   ·exact V _ (w d v r).1 m' (a8 b g1 j m' M B) e.symm
   ·have:=one d v r c M B e;rw[(w d v r).2.1,this,<-(w c M B).2.1,r3]at N;cases N
 ·rcases mem_overT.1 hm with⟨f,-⟩|f
  ·rcases back a y h1 with⟨rfl,rfl⟩|⟨-,A⟩
   ·have:=D.6 a h hk m f e;rw[U];omega
   ·exact D.6 a y A m f e
  ·obtain⟨d,A,h5,rfl⟩:=AZ.1 f;have h6:=(w d A h5).2.2;have:a=k:=O;rcases back a y h1 with⟨-,rfl⟩|⟨q,-⟩
   ·have:=b2 _ f;rw[U];omega
   ·exact absurd this q
 ·rcases back a y h1 with⟨rfl,rfl⟩|⟨-,f⟩
  ·rcases back b P h2 with⟨rfl,-⟩|⟨-,A⟩
   ·exact absurd rfl ne
   ·rw[a0,X];exact D.7 a h b P ne hk A
  ·rcases back b P h2 with⟨rfl,rfl⟩|⟨-,A⟩
   ·rw[S];exact D.7 a y b h ne f hk
   ·exact D.7 a y b P ne f A
 ·rcases back a y h1 with⟨rfl,rfl⟩|⟨-,f⟩
  ·rw[S];exact D.8 a h j hk h2
  ·exact D.8 a y j f h2
 ·obtain⟨a,b,g,g2,o⟩:=D.9 q hq;by_cases e1:a=k
  ·subst e1;have hg:g=h:=af (o.4.symm.trans hk);subst hg;refine⟨a,b,h',g2,⟨o.1,o.2,o.3,Ah hk,by rw[Ai hk (λq=>o.3 q.symm)];exact o.5,o.6,o.7,λe=>?_,λe=>?_⟩⟩
   ·rw[S];exact o.8 e
   ·have ed:Cb h'.1 b=Cb g.1 b:=by rw[B7,B7,eQ,D8,Qr L.1.q R,X];show((AA (Ap (g.1.Q (aL b))++_)).map dm).filter _=_;refine S6 (λx hx=>?_);obtain⟨d,v,r,N,rfl⟩:=CI.1 hx;exact KY L R v r N
    rw[a0,ed];exact o.9 e
  ·by_cases e2:b=k
   ·subst e2;have hg:g2=h:=af (o.5.symm.trans hk);subst hg;refine⟨a,b,g,h',⟨o.1,o.2,o.3,by rw[Ai hk e1];exact o.4,Ah hk,o.6,o.7,o.8,λe=>?_⟩⟩;rw[S];exact o.9 e
   ·exact⟨a,b,g,g2,⟨o.1,o.2,o.3,by rw[Ai hk e1];exact o.4,by rw[Ai hk e2];exact o.5,o.6,o.7,o.8,o.9⟩⟩
end
def J4(h:HW):Int:=h.1.8 0+h.1.8 1+h.1.8 2+h.1.8 3
structure WI(nms:Nat->List Nm)(n t:Nat)(s:WSt)(T:List Mg):Prop where
 n24:2<=n/\n<=4
 com:Com n s T
 ok:∃pb:Nat->Nat,pb 0+pb 1+pb 2+pb 3<=t/\∀(k:Nat) (h:HW),s.1[k]?=I h->∃i,HOk h k i (pb k)/\(i:Int)<=pb k+J4 h
 pend:Pend s T
 tn:∀(k:Nat) (h:HW),s.1[k]?=I h->∀u,(An (h.1.2 u)).Nodup
 nm:∀(k:Nat) (h:HW),s.1[k]?=I h->h.2=nms k
 psl:s.2.length<=100
 lo:0<=s.3/\s.3<=t
section
variable{nms:Nat->List Nm}{n t k:Nat}{s:WSt}{T:List Mg}{h h':HW}
theorem WI.allOk(b:WI nms n t s T):ES s:=λk h hk=>by obtain⟨pb,-,h2⟩:=b.3;obtain⟨i,a,-⟩:=h2 k h hk;exact⟨i,pb k,a⟩
theorem WI.lt(a:WI nms n t s T)(hk:s.1[k]?=I h):k<n:=by rw[<-a.2.1];exact(aa.1 hk).1
theorem WI.get(a:WI nms n t s T){j:Nat}(hj:j<n):∃g,s.1[j]?=I g:=by rw[<-a.2.1]at hj;exact⟨s.1[j],ad hj⟩
theorem WI.more(a:WI nms n t s T){b:Nat}(c:t<=b):WI nms n b s T:=by obtain⟨pb,h1,h2⟩:=a.3;have:=a.8;exact⟨a.1,a.2,⟨pb,O,h2⟩,a.4,a.5,a.6,a.7,O⟩
theorem WI.ars(a:WI nms n t s T){pb:Nat->Nat}(h2:∀(k:Nat) (h:HW),s.1[k]?=I h->∃i,HOk h k i (pb k)/\(i:Int)<=pb k+J4 h)(hk:s.1[k]?=I h)(j:Nat):h.1.8 j<=if j=k then 0 else(pb j:Int):=by
 by_cases e:j=k
 ·rw[if_pos e,a.2.8 k h j hk (aG e)];exact bg _
 ·rw[if_neg e];by_cases hj:j<n
  ·obtain⟨g,hg⟩:=a.get hj;obtain⟨b,-,-⟩:=a.2.7 j g k h e hg hk;obtain⟨i,o,-⟩:=h2 j g hg;have:=(o.1.24 k).2;omega
  ·rw[a.2.8 k h j hk (aw O)];omega
theorem WI.small(a:WI nms n t s T){pb:Nat->Nat}(h1:pb 0+pb 1+pb 2+pb 3<=t)(h2:∀(k:Nat) (h:HW),s.1[k]?=I h->∃i,HOk h k i (pb k)/\(i:Int)<=pb k+J4 h)(hk:s.1[k]?=I h):(pb k:Int)+J4 h<=t/\pb k<=t:=by have c:=a.lt hk;have d:=a.1;have a0:=a.ars h2 hk 0;have b:=a.ars h2 hk 1;have a2:=a.ars h2 hk 2;have a3:=a.ars h2 hk 3;unfold J4;have:k=0\/k=1\/k=2\/k=3:=O;rcases this with rfl|rfl|rfl|rfl<;>simp at a0 b a2 a3<;>omega
theorem WI.turn(a:WI nms n t s T)(z:t<=113)(hk:s.1[k]?=I h)(b:Nat){T':List Mg}(l:Com n (s.setH k h') T')(m:∀i p,HOk h k i p->i<130->p<130->(i:Int)<=p+J4 h->∃c,HOk h' k c (p+b)/\(c:Int)<=((p+b:Nat):Int)+J4 h')(q:Pend (s.setH k h') T')(f:∀u,(An (h'.1.2 u)).Nodup)(d:h'.2=h.2):WI nms n (t+b) (s.setH k h') T':=by
 have o:=a.lt hk;have y:=a.1;obtain⟨pb,h1,h2⟩:=a.3;obtain⟨i,r,v⟩:=h2 k h hk;obtain⟨A,B⟩:=a.small h1 h2 hk;obtain⟨c,w,x⟩:=m i (pb k) r O O v;refine⟨a.1,l,⟨Af pb k (pb k+b),?_,λj g hj=>?_⟩,q,λj g hj=>?_,λj g hj=>?_,a.7,by have:=a.8;show 0<=s.3/\s.3<=((t+b:Nat):Int);omega⟩
 ·have:k=0\/k=1\/k=2\/k=3:=O;rcases this with rfl|rfl|rfl|rfl<;>simp[Af]<;>omega
 ·by_cases e:j=k
  ·subst e;rw[Ah hk]at hj;obtain rfl:=af hj;rw[Ae];exact⟨c,w,x⟩
  ·rw[Ai hk e]at hj;rw[Ab _ _ e];exact h2 j g hj
 ·by_cases e:j=k
  ·subst e;rw[Ah hk]at hj;obtain rfl:=af hj;exact f
  ·rw[Ai hk e]at hj;exact a.5 j g hj
 ·by_cases e:j=k
  ·subst e;rw[Ah hk]at hj;obtain rfl:=af hj;rw[d];exact a.6 j h hk
  ·rw[Ai hk e]at hj;exact a.6 j g hj
theorem Pend.turn(a:Pend s T)(hk:s.1[k]?=I h)(b:∀u,u<5->∀m∈Aj (h'.1.2 u),∀t∈T,t.1≠m.1):Pend (s.setH k h') T:=λj g hj=>by
 by_cases e:j=k
 ·subst e;rw[Ah hk]at hj;obtain rfl:=af hj;exact b
 ·rw[Ai hk e]at hj;exact a j g hj
theorem WI.same(a:WI nms n t s T)(j:t<=113)(hk:s.1[k]?=I h)(f:Com n (s.setH k h') T)(g:∀i p,HOk h k i p->i<130->(i:Int)<=p+J4 h->∃d,HOk h' k d p/\(d:Int)<=(p:Int)+J4 h')(c:∀u,h'.1.2 u=h.1.2 u\/h'.1.2 u=[])(b:h'.2=h.2):WI nms n t (s.setH k h') T:=by
 refine a.turn j hk 0 f (λi p o h1 _ h2=>g i p o h1 h2) (a.4.turn hk (λu l m hm=>?_)) (λu=>?_) b
 ·rcases c u with e|e
  ·rw[e]at hm;exact a.4 k h hk u l m hm
  ·rw[e]at hm;cases hm
 ·rcases c u with e|e
  ·rw[e];exact a.5 k h hk u
  ·rw[e];exact cR
end
section
variable{nms:Nat->List Nm}{n t k:Nat}{s:WSt}{T:List Mg}{h h':HW}
theorem WI.put(a:WI nms n t s T)(z:t<113)(hk:s.1[k]?=I h){u:Nat}(r:u<5)(q:ByteArray)(pri:Int)(body:ByteArray):WI nms n (t+1) (s.setH k (h.put u q pri body)) T:=by
 have d:=UC h u q pri body;have b:(h.put u q pri body).1.3=h.1.3:=by unfold HW.put;split<;>rfl
 have c:(h.put u q pri body).2=h.2:=by unfold HW.put;split<;>rfl
 have l:=a.lt hk;have y:=a.1;refine a.turn O hk 1 (a.2.same hk d b) (λi p o h1 h2 j=>⟨i+1,o.put h1 h2 r q pri body,?_⟩) (a.4.turn hk (λv hv m hm x hx=>?_)) (λv=>?_) c
 ·unfold J4 at j⊢;rw[d.4];omega
 ·unfold HW.put at hm;split at hm
  ·by_cases e:v=u
   ·subst e;have hm:m∈Aj (Af h.1.2 v (h.1.2 v++[⟨aE,h.putM q pri body,A9 h.1.3 (h.putM q pri body)⟩]) v):=hm;rw[Ae,Fd _ rfl,aM]at hm;rcases hm with hm|hm
    ·exact a.4 k h hk v hv m hm x hx
    ·obtain rfl:=bv.1 hm;intro e;obtain⟨i,p,o⟩:=a.allOk k h hk;have f:(h.putM q pri body).1=h.1.4*4+h.1.3:=rfl;have w:=o.1.bn;have g:x.1=h.1.4*4+h.1.3:=e.trans f;rw[o.2]at g;have:=a.2.6 k h hk x hx O;omega
   ·have hm:m∈Aj (Af h.1.2 u (h.1.2 u++[⟨aE,h.putM q pri body,A9 h.1.3 (h.putM q pri body)⟩]) v):=hm;rw[Ab _ _ e]at hm;exact a.4 k h hk v hv m hm x hx
  ·exact a.4 k h hk v hv m hm x hx
 ·unfold HW.put;split
  ·show(An (Af h.1.2 u (h.1.2 u++[⟨aE,h.putM q pri body,A9 h.1.3 (h.putM q pri body)⟩]) v)).Nodup;by_cases e:v=u
   ·subst e;rw[Ae,Lh _ rfl];exact a.5 k h hk v
   ·rw[Ab _ _ e];exact a.5 k h hk v
  ·exact a.5 k h hk v
theorem Tt{i p:Nat}(h0:HOk h k i p){q:ByteArray}{x:Pl}(e:h.got q=I x):x∈h.1.Q (aJ q)/\x.u<0:=by
 unfold HW.got at e;split at e
 ·exact⟨(BS (h0.1.q.1 _)).mem_iff.1 (bY e),by have:x.free=aE:=cO e;simpa[bd]using this⟩
 ·cases e
theorem WI.got(a:WI nms n t s T)(hk:s.1[k]?=I h){q:ByteArray}{x:Pl}(e:h.got q=I x):x.m∈T:=by obtain⟨i,p,o⟩:=a.allOk k h hk;obtain⟨h1,h2⟩:=Tt o e;exact(a.2.3 x.m).2 (aw ⟨k,h,hk,q,A7.2 ⟨x,h1,by simp[bf,h2],rfl⟩⟩)
theorem WI.take(c:WI nms n t s T)(P:t<113)(hk:s.1[k]?=I h){u:Nat}(l:u<5)(q:ByteArray):WI nms n (t+1) (s.setH k (h.get u q)) T:=by
 obtain⟨i,p,o⟩:=c.allOk k h hk;have j:=UB o u q;have f:(h.get u q).1.3=h.1.3:=by unfold HW.get;split<;>rfl
 have g:(h.get u q).2=h.2:=by unfold HW.get;split<;>rfl
 refine c.turn O hk 1 (c.2.same hk j f) (λi p o h1 h2 H=>⟨i+1,o.get h1 h2 l q,?_⟩) (c.4.turn hk (λv hv m hm x hx=>?_)) (λv=>?_) g
 ·unfold J4 at H⊢;rw[j.4];omega
 ·unfold HW.get at hm;split at hm
  ·rename_i y e;have hm:m∈Aj (Af h.1.2 u (h.1.2 u++[⟨ai,y.m,aJ q⟩]) v):=hm;by_cases e:v=u
   ·subst e;rw[Ae,Fq _ rfl]at hm;exact c.4 k h hk v hv m hm x hx
   ·rw[Ab _ _ e]at hm;exact c.4 k h hk v hv m hm x hx
  ·exact c.4 k h hk v hv m hm x hx
 ·unfold HW.get;split
  ·rename_i y e;obtain⟨N,r⟩:=Tt o e;show(An (Af h.1.2 u (h.1.2 u++[⟨ai,y.m,aJ q⟩]) v)).Nodup;by_cases e:v=u
   ·subst e;rw[Ae,JT _ rfl];refine List.nodup_append.2 ⟨c.5 k h hk v,oS,λa L b M e=>?_⟩;obtain rfl:=bv.1 M;obtain⟨d,w,z,A⟩:=CJ.1 L;obtain⟨Q,-,B⟩:=o.1.q.7 v d l w z;obtain⟨-,D⟩:=o.1.q.one B N (by show d.m.1=y.m.1;rw[A,e]);rw[<-D]at r;simp only at r;omega
   ·rw[Ab _ _ e];exact c.5 k h hk v
  ·exact c.5 k h hk v
theorem WI.comm_no(b:WI nms n t s T)(g:t<=113)(hk:s.1[k]?=I h){u:Nat}(j:u<5)(e:h.commE u≠0):WI nms n t (s.setH k (h.comm u)) T:=by
 have f:SameC h (h.comm u)/\(h.comm u).1.3=h.1.3/\(h.comm u).2=h.2/\(h.comm u).1.2=h.1.2:=by
  unfold HW.commE at e;unfold HW.comm;split at e
  ·rename_i e1;rw[if_pos e1];exact⟨SameC.refl h,rfl,rfl,rfl⟩
  ·rename_i e1;rw[if_neg e1];refine⟨Fs e,?_⟩;by_cases a:CE h=14
   ·rw[bZ a];exact⟨rfl,rfl,rfl⟩
   ·rw[cw e a];exact⟨rfl,rfl,rfl⟩
 obtain⟨h1,h2,c,d⟩:=f;refine b.same g hk (b.2.same hk h1 h2) (λi p o _ q=>⟨i,o.comm j,?_⟩) (λv=>aw (by rw[d])) c;unfold J4 at q⊢;rw[h1.4];exact q
theorem MW{u:Nat}(e:h.commE u=0):(h.comm u).1=I6 h.1 u/\(h.comm u).2=h.2:=by
 unfold HW.commE at e;unfold HW.comm;split at e
 ·cases e
 ·rename_i e1;rw[if_neg e1,bc e];exact⟨rfl,rfl⟩
theorem WI.comm(a:WI nms n t s T)(Q:t<=113)(hk:s.1[k]?=I h){u:Nat}(w:u<5)(e:h.commE u=0):WI nms n t (s.setH k (h.comm u)) (Gu T (h.1.2 u)):=by
 obtain⟨A,N⟩:=MW e;have P:=a.lt hk;have R:=a.1;have b:(h.comm u).1.2=Af h.1.2 u []:=by rw[A];rfl
 refine a.turn Q hk 0 (a.2.over a.allOk a.4 hk w A) (λi p o _ _ q=>⟨i,o.comm w,?_⟩) (λj g hj v hv m hm x hx=>?_) (λv=>?_) N
 ·unfold J4 at q⊢;rw[show(h.comm u).1.8=h.1.8 by rw[A];rfl];exact q
 ·obtain⟨i,p,o⟩:=a.allOk k h hk;have r:∀x∈Aj (h.1.2 u),x.1%4=(k:Int):=λx hx=>by obtain⟨d,y,z,rfl⟩:=AZ.1 hx;obtain⟨-,-,M⟩:=o.1.q.6 u d w y z;rw[M,o.2]
  by_cases D:j=k
  ·subst D;rw[Ah hk]at hj;obtain rfl:=af hj;rw[b]at hm;by_cases l:v=u
   ·rw[l,Ae]at hm;cases hm
   ·rw[Ab _ _ l]at hm;rcases mem_overT.1 hx with⟨f,-⟩|f
    ·exact a.4 j h hk v hv m hm x f
    ·intro ex;obtain⟨d,y,z,rfl⟩:=AZ.1 f;obtain⟨c,c1,c2,rfl⟩:=AZ.1 hm;obtain⟨-,B,-⟩:=o.1.q.6 u d w y z;obtain⟨-,c4,-⟩:=o.1.q.6 v c hv c1 c2;by_cases H:d.3=c.3
     ·rw[<-H]at c4;have:=Z4 (o.1.q.1 _).2 B c4 ex;injection this with _ q _;omega
     ·exact o.1.q.2 _ _ _ _ H B c4 ex
  ·rw[Ai hk D]at hj;rcases mem_overT.1 hx with⟨f,-⟩|f
   ·exact a.4 j g hj v hv m hm x f
   ·intro ex;obtain⟨S,U,L⟩:=a.allOk j g hj;obtain⟨c,c1,c2,rfl⟩:=AZ.1 hm;obtain⟨-,-,c3⟩:=L.1.q.6 v c hv c1 c2;have:=r x f;rw[ex,c3,L.2]at this;omega
 ·rw[b];by_cases l:v=u
  ·rw[l,Ae];exact cR
  ·rw[Ab _ _ l];exact a.5 k h hk v
theorem WI.taken(a:WI nms n t s T)(hk:s.1[k]?=I h){u:Nat}(b:u<5){z:Int}(c:z∈An (h.1.2 u)):∃m∈T,m.1=z:=by obtain⟨i,p,o⟩:=a.allOk k h hk;obtain⟨d,e,f,g⟩:=CJ.1 c;obtain⟨q,-,j⟩:=o.1.q.7 u d b e f;exact⟨d.m,(a.2.3 d.m).2 (aw ⟨k,h,hk,q,A7.2 ⟨_,j,by simp[bf],rfl⟩⟩),g⟩
theorem WI.back(a:WI nms n t s T)(c:t<=113)(hk:s.1[k]?=I h){u:Nat}(d:u<5):WI nms n t (s.setH k (h.back u)) T:=by
 have b:=RQ h u;refine a.same c hk (a.2.same hk b (by unfold HW.back;split<;>rfl)) (λi p o _ q=>⟨i,o.back d,?_⟩) (λv=>?_) (by unfold HW.back;split<;>rfl)
 ·unfold J4 at q⊢;rw[b.4];exact q
 ·unfold HW.back;split
  ·show Af h.1.2 u [] v=_\/Af h.1.2 u [] v=_;by_cases e:v=u
   ·rw[e,Ae];exact aG rfl
   ·rw[Ab _ _ e];exact aw rfl
  ·exact aw rfl
theorem WI.cutT(a:WI nms n t s T)(b:t<=113)(hk:s.1[k]?=I h){c:Int}(hc:c<=9223372036854775807)(tn:Int):WI nms n t (s.setH k (h.cutT c tn)) T:=a.same b hk (a.2.same hk (RR h c tn) rfl) (λi _ o _ q=>⟨i,o.cutT hc tn,q⟩) (λ_=>aw rfl) rfl
theorem WI.cut(a:WI nms n t s T)(b:t<=113)(hk:s.1[k]?=I h){c:Int}(hc:c<=9223372036854775807):WI nms n t (s.setH k (h.cut c)) T:=a.same b hk (a.2.same hk (NL h c) rfl) (λi _ o _ q=>⟨i,o.cut hc,q⟩) (λ_=>aw rfl) rfl
theorem WI.anew(b:WI nms n t s T)(c:t<=113)(hk:s.1[k]?=I h)(a:Nat):WI nms n t (s.setH k ((h.cut (-1)).anew a)) T:=b.same c hk (b.2.same hk ((NL h (-1)).trans (RP _ a)) rfl) (λi _ o _ q=>⟨i,((o.cut O).anew a).1,q⟩) (λ_=>aG rfl) rfl
end
def On(h:HW):Prop:=h.1.9=ai/\h.d.2=ai
theorem Mz{h:HW}{c:Ch}{rs':D3}{ns':List Nm}{n:Nat}(f:rs'.2=h.1.2)(j:rs'.9=h.1.9):(h.wr c rs' ns' n).1.2=h.1.2/\(On h->On (h.wr c rs' ns' n)):=by
 by_cases e:CE h=0
 ·rw[bc e];exact⟨f,λo=>⟨j.trans o.1,o.2⟩⟩
 ·by_cases d:CE h=14
  ·refine⟨by rw[bZ d],λo=>absurd d ?_⟩;unfold CE;rw[o.1,o.2];simp;split<;>simp
  ·rw[cw e d];exact⟨rfl,id⟩
theorem F6(h:HW)(far:Int):(h.bat far).1.2=h.1.2/\(On h->On (h.bat far)):=by
 unfold HW.bat;split
 ·exact Mz rfl rfl
 ·exact⟨rfl,id⟩
theorem GK(h:HW)(far n:Int):(h.came far n).1.2=h.1.2/\(On h->On (h.came far n)):=by
 unfold HW.came;split
 ·exact⟨rfl,id⟩
 ·exact Mz rfl rfl
theorem ET(h:HW)(far n:Int)(l:List Mg):(HW.arr F h far n l).1.2=h.1.2/\(On h->On (HW.arr F h far n l)):=by
 unfold HW.arr;split
 ·exact Mz rfl rfl
 ·exact⟨rfl,id⟩
theorem Qw{h:HW}{c:Ch}{rs':D3}{n:Nat}:(h.wr c rs' h.2 n).2=h.2:=by
 by_cases e:CE h=0
 ·rw[bc e]
 ·by_cases d:CE h=14
  ·rw[bZ d]
  ·rw[cw e d]
theorem Vk{h:HW}{c:Ch}{rs':D3}{ns':List Nm}{n:Nat}(f:rs'.3=h.1.3):(h.wr c rs' ns' n).1.3=h.1.3:=by
 by_cases e:CE h=0
 ·rw[bc e];exact f
 ·by_cases d:CE h=14
  ·rw[bZ d]
  ·rw[cw e d]
theorem Wq{ids:List Int}{l:List Mg}(c:l.Pairwise λa b=>a.1≠b.1)(hm:∀m∈l,m.1∈ids):l.length<=ids.length:=by have:=Fo (A:=l.map fr) (B:=ids.map λz=>fr {Do with id:=z}) (bA.2 c) (λx hx=>by obtain⟨m,h1,rfl⟩:=bt.1 hx;exact⟨_,bt.2 ⟨m.1,hm m h1,rfl⟩,rfl⟩);rwa[cc,cc]at this
section
variable{nms:Nat->List Nm}{n t k a b i p:Nat}{s:WSt}{T:List Mg}{h h' g:HW}
theorem S7(h0:HOk h k i p)(j:Nat):(Cb h.1 j).length<=3/\∀x∈Cb h.1 j,right x=aE:=by
 have c:=h0.1.q.1 (aL j);constructor
 ·refine bu (Wq (ids:=h.1.6 j) ?_ (λm hm=>((IL c).1 hm).2)) (h0.1.17 j).2;rw[B7];refine List.Pairwise.filter _ (bA.2 ?_);exact((BS (EY c)).pairwise_iff (λ{_ _} q e=>q e.symm)).2 (EY c).2
 ·intro x hx;obtain⟨y,h1,-,rfl⟩:=CP ((IL c).1 hx).1;exact c.1 y h1
theorem WI.nets(c:WI nms n t s T){qs:List Pk}{lost:Int}{d:Nat}(j:t<=d)(e:Com n {s with ps:=qs,lost:=lost} T)(hq:qs.length<=100)(f:0<=lost/\lost<=d):WI nms n d {s with ps:=qs,lost:=lost} T:=⟨c.1,e,(c.more j).3,c.4,c.5,c.6,hq,f⟩
theorem WI.rem(c:WI nms n t s T)(i:Nat):WI nms n t (s.rem i) T:=c.nets (lost:=s.3) (ag _) (c.2.rem i) (by rw[ae,au,aH];have:=c.7;omega) c.8
theorem WI.send(d:WI nms n t s T){q:Pk}(l:∃k j h g,PkOk s q k j h g):WI nms n (t+1) (s.send q) T:=by
 have c:=d.2.send l;have f:=d.8;unfold WSt.send at c⊢;split
 ·rename_i e;rw[if_pos e]at c;exact d.nets (lost:=s.3) (cj _) c (by rw[ae,aZ];omega) O
 ·rename_i e;rw[if_neg e]at c;exact d.nets (qs:=s.2) (cj _) c d.7 O
theorem WI.sendF(d:WI nms n t s T)(e:s.2.length<100){q:Pk}(f:∃k j h g,PkOk s q k j h g):WI nms n t (s.send q) T:=by have c:=d.2.send f;unfold WSt.send at c⊢;rw[if_pos e]at c⊢;exact d.nets (lost:=s.3) (ag _) c (by rw[ae,aZ];omega) d.8
theorem WI.bat(c:WI nms n t s T)(x:t<=113)(hk:s.1[k]?=I h){far:Nat}(u:far<n):WI nms n t (s.setH k (h.bat (far:Int))) T:=by
 have w:=c.lt hk;have z:=c.1;obtain⟨g,hg⟩:=c.get u;have d:∀(k:Nat) (h:HW),s.1[k]?=I h->h.1.3=(k:Int):=λk h hk=>by obtain⟨i,p,o⟩:=c.allOk k h hk;exact o.2
 have l:Com n (s.setH k (h.bat (far:Int))) T/\(h.bat (far:Int)).1.8=h.1.8:=by
  unfold HW.bat;split
  ·rename_i e;obtain⟨m,y,j⟩:=IW e.1;obtain⟨-,r⟩:=AE.1 m;rw[d k h hk]at r;rw[an]at e j⊢;by_cases f:CE h=0
   ·rw[bc f];refine⟨c.2.made d O hk hg O e.2 ?_ rfl,rfl⟩;unfold Bb;intro q;have q:=List.map_eq_nil_iff.1 q;rw[List.take_eq_nil_iff]at q;rcases q with q|q
    ·cases q
    ·exact j e.2 q
   ·exact⟨c.2.same hk (Fs f) (Vk rfl),(Fs f).4⟩
  ·exact⟨c.2.same hk (SameC.refl h) rfl,rfl⟩
 refine c.same x hk l.1 (λi p o _ q=>⟨i,o.bat _,?_⟩) (λv=>aw (by rw[(F6 h _).1])) ?_
 ·unfold J4 at q⊢;rw[l.2];exact q
 ·unfold HW.bat;split
  ·exact Qw
  ·rfl
theorem SO(c:WI nms n t s T)(v:t<=113)(hk:s.1[k]?=I h){far:Nat}(m:far<n)(e:h.batE (far:Int)=0):∃a b x y,PkOk (s.setH k (h.bat (far:Int))) ⟨(k:Int),h.batN (far:Int),ai,h.batL (far:Int),(far:Int)⟩ a b x y:=by
 obtain⟨g,hg⟩:=c.get m;obtain⟨i,p,o⟩:=c.allOk k h hk;have eb:Od h.st (far:Int)=0:=by
  unfold HW.batE at e;split at e
  ·rename_i q;exact absurd e q
  ·rename_i q;simpa using q
 obtain⟨j,-,-⟩:=IW eb;obtain⟨-,l⟩:=AE.1 j;rw[o.2]at l;have r:h.batL (far:Int)=Cb (h.bat (far:Int)).1 far:=by unfold HW.batL;rw[if_pos e,an]
 have u:h.batN (far:Int)=(h.bat (far:Int)).1.7 far:=by unfold HW.batN;rw[if_pos e,an]
 obtain⟨d,f⟩:=S7 (o.bat (far:Int)) far;rw[r,u];exact⟨k,far,h.bat (far:Int),g,⟨rfl,rfl,O,Ah hk,by rw[Ai hk O];exact hg,d,f,λq=>(by cases q),λ_=>⟨bg _,λ_=>rfl⟩⟩⟩
theorem WI.sendB(c:WI nms n t s T)(f:t<=113)(hk:s.1[k]?=I h){far:Nat}(d:far<n):WI nms n (t+1) (s.sendB k h far) T:=by
 unfold WSt.sendB;split
 ·rename_i e;exact(c.bat f hk d).send (SO c f hk d e)
 ·exact(c.bat f hk d).more (cj _)
theorem WI.sendB0(c:WI nms n t s T)(f:t<=113)(h0:s.2=[])(hk:s.1[k]?=I h){far:Nat}(d:far<n):WI nms n t (s.sendB k h far) T:=by
 unfold WSt.sendB;split
 ·rename_i e;exact(c.bat f hk d).sendF (by show s.2.length<100;rw[h0];decide) (SO c f hk d e)
 ·exact c.bat f hk d
theorem WI.came(d:WI nms n t s T)(w:t<=113){q:Pk}(c:PkOk s q a b h g)(r:q.3=aE):WI nms n t (s.setH b (g.came q.1 q.2)) T:=by
 have u:=d.lt c.5;have y:=d.1;have j:∀(k:Nat) (h:HW),s.1[k]?=I h->h.1.3=(k:Int):=λk h hk=>by obtain⟨i,p,o⟩:=d.allOk k h hk;exact o.2
 have l:Com n (s.setH b (g.came q.1 q.2)) T/\(g.came q.1 q.2).1.8=g.1.8:=by
  unfold HW.came;split
  ·exact⟨d.2.same c.5 (SameC.refl g) rfl,rfl⟩
  ·rename_i e;obtain⟨x,-,-,m⟩:=ML (by simpa using e);rw[c.1,an]at m⊢;by_cases f:CE g=0
   ·rw[bc f];refine⟨d.2.came j O c.5 c.4 (λq=>c.3 q.symm) ?_ rfl,rfl⟩;have:=(c.8 r).2;omega
   ·exact⟨d.2.same c.5 (Fs f) (Vk rfl),(Fs f).4⟩
 refine d.same w c.5 l.1 (λi p o _ q=>⟨i,o.came _ _,?_⟩) (λv=>aw (by rw[(GK g _ _).1])) ?_
 ·unfold J4 at q⊢;rw[l.2];exact q
 ·unfold HW.came;split
  ·rfl
  ·exact Qw
end
section
variable{nms:Nat->List Nm}{n t k a b i p:Nat}{s:WSt}{T:List Mg}{h h' g:HW}
theorem VA(g c:HW)(d:a<4)(e:c.1.8=Af g.1.8 a (g.1.8 a+1)):J4 c=J4 g+1:=by unfold J4;rw[e];have:a=0\/a=1\/a=2\/a=3:=O;rcases this with rfl|rfl|rfl|rfl<;>simp[Af]<;>omega
theorem WI.arr(d:WI nms n t s T)(u:t<=113){q:Pk}(c:PkOk s q a b h g)(H:q.3=ai):WI nms n t (s.setH b (HW.arr F g q.1 q.2 q.4)) T:=by
 have L:=d.lt c.4;have M:=d.lt c.5;have N:=d.1;have m3:=c.6;by_cases e:HW.arF F g q.1 q.2 q.4=0/\¬q.2<=g.1.8 q.1.toNat
 ·by_cases m:CE g=0
  ·obtain⟨U,V,D⟩:=d.allOk b g c.5;obtain⟨-,-,w,-,-⟩:=F3 D.1 e.1 e.2;have l:HW.arr F g q.1 q.2 q.4=g.wr (BH a (Fa g q.4) (E9 g q.4)) (J5 g.1 a (Fa g q.4) (E9 g q.4)) g.2 ((Fa g q.4).length+(E9 g q.4).length):=by unfold HW.arr;rw[if_pos e,c.1,an]
   rw[c.1,an]at w;obtain⟨P,z⟩:=c.9 H;obtain⟨W,X,-⟩:=d.2.7 a h b g c.3 c.4 c.5;have x:(HW.arr F g q.1 q.2 q.4).1=J5 g.1 a (Fa g q.4) (E9 g q.4):=by rw[l,bc m]
   refine d.same u c.5 (d.2.arr d.allOk c.5 c.4 c.3 N.2 (z O) O x) (λi p o h1 h2=>⟨i+1,o.arr h1 _ _ O,?_⟩) (λv=>aw (by rw[(ET g _ _ _).1])) (by rw[l];exact Qw);rw[VA (a:=a) g _ O (by rw[x];rfl)];omega
  ·have y:SameC g (HW.arr F g q.1 q.2 q.4):=by unfold HW.arr;rw[if_pos e];exact Fs m
   refine d.same u c.5 (d.2.same c.5 y ?_) (λi p o h1 h2=>⟨i,?_,?_⟩) (λv=>aw (by rw[(ET g _ _ _).1])) ?_
   ·unfold HW.arr;rw[if_pos e];exact Vk rfl
   ·obtain⟨A,R,w,B,r⟩:=F3 o.1 e.1 e.2;obtain⟨⟨f0,S⟩,-⟩:=AE.1 A;have f:=(o.1.new B r).1;have j:=(El g.2 (λs=>g.1.Q (aJ s)) q.4).1;have j:(Fa g q.4).length+(E9 g q.4).length=q.4.length:=j;unfold HW.arr;rw[if_pos e];refine o.wr (Ga O f.1 f.2 ⟨by show(Fa g q.4).length<=_;omega,by show(E9 g q.4).length<=_;omega⟩) rfl ?_ (ag _) O (λr=>absurd r m) (λ_ {_ _ _ _} q=>q);show(Fa g q.4).length+(E9 g q.4).length<=(Fa g q.4).length+(E9 g q.4).length+0;omega
   ·unfold J4 at h2⊢;rw[y.4];exact h2
   ·unfold HW.arr;rw[if_pos e];exact Qw
 ·have l:HW.arr F g q.1 q.2 q.4=g:=by unfold HW.arr;rw[if_neg e]
  rw[l];exact d.same u c.5 (d.2.same c.5 (SameC.refl g) rfl) (λi p o _ q=>⟨i,o,q⟩) (λ_=>aw rfl) rfl
theorem Za(g:HW)(a:Nat)(nu:Int)(l:List Mg)(e:HW.arrE F g (a:Int) nu l=0):HW.arrV F g (a:Int) nu l<=(HW.arr F g (a:Int) nu l).1.8 a:=by
 have c:HW.arF F g (a:Int) nu l=0:=by apply bi;intro q;unfold HW.arrE at e;rw[if_pos q]at e;exact q e
 unfold HW.arrV;rw[if_pos e,an];by_cases h1:nu<=g.1.8 a
 ·rw[if_pos h1];unfold HW.arr;rw[if_neg (by rw[an];exact λq=>q.2 h1)];exact bg _
 ·rw[if_neg h1];unfold HW.arrE at e;rw[if_neg (by simpa using c),an,if_neg h1]at e;unfold HW.arr;rw[if_pos (by rw[an];exact⟨c,h1⟩),bc e,an];show _<=Af g.1.8 a (g.1.8 a+1) a;rw[Ae];exact bg _
theorem WI.comes(d:WI nms n t s T)(f:t<=113)(j:s.2.length<100){q:Pk}(c:PkOk s q a b h g):WI nms n t (WSt.comes F s b g q) T:=by
 unfold WSt.comes;split
 ·rename_i e;exact d.came f c e
 ·rename_i e;have e:q.3=ai:=by simpa using e
  split
  ·rename_i e2;refine(d.arr f c e).sendF j ⟨b,a,_,h,⟨c.2,c.1,λq=>c.3 q.symm,Ah c.5,by rw[Ai c.5 c.3];exact c.4,oS,oS,λ_=>⟨rfl,?_⟩,λq=>(by cases q)⟩⟩;rw[c.1]at e2⊢;exact Za g a q.2 q.4 e2
  ·exact d.arr f c e
theorem PkOk.rem{q:Pk}(c:PkOk s q a b h g)(j:Nat):PkOk (s.rem j) q a b h g:=⟨c.1,c.2,c.3,c.4,c.5,c.6,c.7,c.8,c.9⟩
theorem WL{j:Nat}(hj:j<s.2.length):(s.rem j).2.length+1=s.2.length:=by show(s.2.take j++s.2.drop (j+1)).length+1=_;rw[ae,au,aH];omega
theorem WI.deliver(c:WI nms n t s T)(l:t<=113){j:Nat}{q:Pk}(hj:s.2[j]?=I q):∃(k:Nat) (h:HW) (i p:Nat),Ko s q k h i p/\WI nms n t (WSt.comes F (s.rem j) k h q) T:=by obtain⟨a,b,h,g,d⟩:=c.2.9 q (bo hj);obtain⟨i,p,o⟩:=c.allOk b g d.5;have e:=(aa.1 hj).1;have h1:=WL e;have h2:=c.7;have f:=c.8;have m3:=d.6;exact⟨b,g,i,p,⟨d.2,d.5,o,c.7,O,O,d.7⟩,(c.rem j).comes l O (d.rem j)⟩
end
def EU(h:HW):Nat->List Dd:=if h.1.9=aE then λ_=>[]else h.1.2
def Xx(nms:Nat->List Nm)(n t:Nat)(T:List Mg)(s0 s:WSt):Prop:=WI nms n t s T/\∀(k:Nat) (h0 h:HW),s0.1[k]?=I h0->s.1[k]?=I h->On h/\h.1.2=EU h0
def XR(nms:Nat->List Nm)(n t:Nat)(T:List Mg)(s0:WSt)(j:Nat)(s:WSt):Prop:=WI nms n t s T/\∀(k:Nat) (h0 h:HW),s0.1[k]?=I h0->s.1[k]?=I h->(k<j->On h/\h.1.2=EU h0)/\(j<=k->h=h0)
section
variable{nms:Nat->List Nm}{n t k a b i p:Nat}{s s0:WSt}{T:List Mg}{h h' g:HW}
theorem Mm(s:WSt)(q:Pk):(s.send q).1=s.1:=by unfold WSt.send;split<;>rfl
theorem PF(hs:∀(k:Nat) (h0 h:HW),s0.1[k]?=I h0->s.1[k]?=I h->On h/\h.1.2=EU h0)(hk:s.1[k]?=I h)(d:h'.1.2=h.1.2/\(On h->On h')){s':WSt}(e:s'.1=(s.setH k h').1):∀(k:Nat) (h0 h:HW),s0.1[k]?=I h0->s'.1[k]?=I h->On h/\h.1.2=EU h0:=λj h0 g h1 h2=>by
 rw[e]at h2;by_cases c:j=k
 ·subst c;rw[Ah hk]at h2;obtain rfl:=af h2;obtain⟨f,l⟩:=hs j h0 h h1 hk;exact⟨d.2 f,d.1.trans l⟩
 ·rw[Ai hk c]at h2;exact hs j h0 g h1 h2
theorem MV(s:WSt)(j k:Nat)(h:HW)(q:Pk):∃h',(WSt.comes F (s.rem j) k h q).1=(s.setH k h').1/\h'.1.2=h.1.2/\(On h->On h'):=by
 unfold WSt.comes;split
 ·exact⟨_,rfl,GK h _ _⟩
 ·split
  ·exact⟨_,Mm _ _,ET h _ _ _⟩
  ·exact⟨_,rfl,ET h _ _ _⟩
theorem NM(s:WSt)(k:Nat)(h:HW)(far:Nat):∃h',(s.sendB k h far).1=(s.setH k h').1/\h'.1.2=h.1.2/\(On h->On h'):=by
 unfold WSt.sendB;split
 ·exact⟨_,Mm _ _,F6 h _⟩
 ·exact⟨_,rfl,F6 h _⟩
theorem PE(f:t<=113):Vq (Xx nms n t T s0):=λs q r hs e=>by obtain⟨k,h,i,p,c,d⟩:=hs.1.deliver f (j:=0) (q:=q) (by rw[e];rfl);obtain⟨h',l,m⟩:=MV s 0 k h q;exact⟨k,h,i,p,c,d,PF hs.2 c.2 m l⟩
theorem XX(c:HW)(d:c.1.9=ai):On (c.cut (-1)):=⟨d,rfl⟩
theorem MM(d:XR nms n t T s0 a s)(hk:s.1[a]?=I h)(f:On h'/\h'.1.2=EU h)(e:WI nms n t (s.setH a h') T):XR nms n t T s0 (a+1) (s.setH a h'):=⟨e,λj h0 g h1 h2=>by
 by_cases c:j=a
 ·subst c;rw[Ah hk]at h2;obtain rfl:=af h2;obtain rfl:=(d.2 j h0 h h1 hk).2 (ag _);exact⟨λ_=>f,λq=>O⟩
 ·rw[Ai hk c]at h2;obtain⟨l,m⟩:=d.2 j h0 g h1 h2;exact⟨λq=>l O,λq=>m O⟩⟩
theorem QE(f:t<=113):Lx n (XR nms n t T s0) (Xx nms n t T s0) (λ_ s=>Xx nms n t T s0 s/\s.2=[]) (λ_ s=>Xx nms n t T s0 s) where
 len:=λ_ _ c=>c.1.2.1
 ok:=λ_ _ h c hk=>c.1.allOk _ h hk
 on:=λj s h c hk l=>MM c hk ⟨XX h l,by unfold EU;rw[l];rfl⟩ (c.1.cut f hk O)
 up:=λj s h m c hk l=>MM c hk ⟨⟨rfl,rfl⟩,by unfold EU;rw[if_pos l];rfl⟩ (c.1.anew f hk m)
 a0:=λs c=>⟨c.1,λk h0 h h1 h2=>(c.2 k h0 h h1 h2).1 (c.1.lt h2)⟩
 del0:=PE f
 k0:=λ_ h e=>⟨h,e⟩
 klen:=λ_ s h=>⟨h.1.1.2.1,h.2,by have:=h.1.1.8;omega⟩
 kok:=λ_ s k h d hk=>d.1.1.allOk k h hk
 send:=λk far s h _ o d hk=>by obtain⟨h',q,r⟩:=NM s k h far;exact⟨d.1.1.sendB0 f d.2 hk o,PF d.1.2 hk r q⟩
 del:=λ_=>PE f
 ka:=λ_ _ h e=>⟨h,e⟩
def Zz(nms:Nat->List Nm)(n t:Nat)(T:List Mg)(s0:WSt)(m:Nat)(s:WSt):Prop:=(m=0/\s=s0/\WI nms n t s T)\/(0<m/\Xx nms n t T s0 s)
theorem ST(l:t<=113)(x:s0.1.length=n):Sy n (Zz nms n t T s0) (Xx nms n t T s0):=λm s f=>by
 have j:WI nms n t s T:=by
  rcases f with⟨-,-,h⟩|⟨-,h⟩
  ·exact h
  ·exact h.1
 refine⟨j.allOk,_,_,_,_,QE (nms:=nms) (T:=T) (s0:=s) l,⟨j,λk h0 h h1 h2=>⟨λq=>O,λ_=>af (h2.symm.trans h1)⟩⟩,λs' c=>?_⟩;have e:Xx nms n t T s0 s':=by
  refine⟨c.1.1,λk h0 h h1 h2=>?_⟩;rcases f with⟨-,rfl,-⟩|⟨-,d⟩
  ·exact c.1.2 k h0 h h1 h2
  ·obtain⟨g,hg⟩:=d.1.get (c.1.1.lt h2);obtain⟨o,r⟩:=c.1.2 k g h hg h2;obtain⟨u,v⟩:=d.2 k h0 g h1 hg;refine⟨o,r.trans ?_⟩;rw[<-v];unfold EU;rw[u.1];rfl
 exact⟨c.1.1.allOk,aG ⟨Nat.succ_pos m,e⟩,λ_=>e⟩
end
section
variable{L:Nat->Prop}{W:Nat}{w:ax}{s:WSt}{nms:Nat->List Nm}{n t:Nat}{T:List Mg}
theorem Va(d:WM L W s w)(c:WI nms n t s T)(l:t<=113){r:Nat}(h0:0<r)(j:r<=1000000):aq ab 10 #[ah (I ⟨W,0,E⟩),Y G (r:Int)] w λe w'=>e=ac (az #[])/\Hid (∃s',Xx nms n t T s s'/\WM L W s' w'/\Only w w' (λb=>¬L b)):=by
 refine(Qt (ST l c.2.1) d (aw ⟨rfl,rfl,c⟩) r j).mono ?_;rintro e w' ⟨f,hs⟩;obtain⟨s',h1,h2⟩:=hs.o;refine⟨f,Aa ⟨s',?_,h2⟩⟩;rcases h1 with h1|h1
 ·rcases h1 with⟨q,-⟩|⟨-,q⟩
  ·omega
  ·exact q
 ·exact h1.1
end
section
variable{nms:Nat->List Nm}{n t k i p:Nat}{s:WSt}{T:List Mg}{h:HW}
theorem Ia{A:List Pl}(c:Fit A):(Ar bf (AA A)).Pairwise λa b=>a.1≠b.1:=by rw[FZ];refine bA.2 ?_;exact((BS (EY c)).pairwise_iff (λ{_ _} q e=>q e.symm)).2 (EY c).2
theorem KF(h0:HOk h k i p){ks:List ByteArray}(b:Ie (λt=>h.1.Q (aJ t)) ks){m:Mg}:m∈Bo (λt=>h.1.Q (aJ t)) ks↔CF h m:=by
 unfold Bo CF;rw[bM];constructor
 ·rintro⟨u,-,a⟩;exact⟨u,(Ej (h0.1.q.1 _)).1 a⟩
 ·rintro⟨u,a⟩;obtain⟨x,x1,-,-⟩:=CP a;refine⟨u,?_,(Ej (h0.1.q.1 _)).2 a⟩;apply bi;intro q;have:h.1.Q (aJ u)=[]:=b.2 u q;rw[this]at x1;cases x1
theorem KG(h0:HOk h k i p){m:Mg}:m∈Fh s k h.1 4↔∃j,Cc s k h j m:=by
 unfold Fh;rw[bM];constructor
 ·rintro⟨j,-,hj⟩;unfold Me at hj;split at hj
  ·rename_i e;obtain⟨h1,h2⟩:=(Mb (h0.1.q.1 _)).1 hj;exact⟨j,e,h1,h2⟩
  ·cases hj
 ·rintro⟨j,e,h1,h2⟩;obtain⟨⟨a,b⟩,-⟩:=AE.1 e;refine⟨j,List.mem_range.2 O,?_⟩;unfold Me;rw[if_pos e];exact(Mb (h0.1.q.1 _)).2 ⟨h1,h2⟩
theorem led_apart(g:WI nms n t s T)(hk:s.1[k]?=I h){l:List Mg}(d:Vr s k h l):(l.Pairwise λa b=>a.1≠b.1)/\∀m,m∈l↔CF h m\/∃j,Cc s k h j m:=by
 obtain⟨ks,r,rfl⟩:=d;obtain⟨i,p,o⟩:=g.allOk k h hk;refine⟨aI.2 ⟨?_,?_,λa B b D=>?_⟩,λm=>by rw[aM,KF o r,KG o]⟩
 ·unfold Bo;rw[cK,bN];refine⟨λl d=>?_,?_⟩
  ·obtain⟨u,-,rfl⟩:=bt.1 d;exact Ia (o.1.q.1 _)
  ·refine bA.2 (r.1.imp (λ{u v} c x hx y A e=>?_));obtain⟨x',x1,-,rfl⟩:=CP ((Ej (o.1.q.1 _)).1 hx);obtain⟨y',H,-,rfl⟩:=CP ((Ej (o.1.q.1 _)).1 A);exact c (o.1.q.one x1 H e).1
 ·unfold Fh;rw[cK,bN];refine⟨λl d=>?_,?_⟩
  ·obtain⟨j,-,rfl⟩:=bt.1 d;unfold Me;split
   ·unfold Wz;exact(Ia (o.1.q.1 _)).filter _
   ·exact List.Pairwise.nil
  ·refine bA.2 (List.nodup_range.imp (λ{u v} c x hx y A e=>?_));have w:∀(j:Nat) (z:Mg),z∈Me h.1 j (Z5 s k j)->D7 h j z:=λj z f=>by
    unfold Me at f;split at f
    ·exact((Mb (o.1.q.1 _)).1 f).1
    ·cases f
   exact c (T0 g.allOk hk hk (w u x hx) (w v y A) e).2.1
 ·have h1:=(KF o r).1 B;obtain⟨j,h2⟩:=(KG o).1 D;exact g.2.5 k h k h j a b hk hk h1 h2
theorem TP(c:WI nms n t s T){l:List Mg}(P:LedN s n l):l.Perm T:=by
 obtain⟨A,rfl,h2,w⟩:=P;have u:∀(k:Nat) (x:List Mg),A[k]?=I x->∃h,s.1[k]?=I h/\Vr s k h x:=λk x hx=>by obtain⟨g,hg⟩:=c.get (j:=k) (by rw[<-h2];exact(aa.1 hx).1);exact⟨g,hg,w k g x hg hx⟩
 have Q:A.flatten.Pairwise λa b=>a.1≠b.1:=by
  rw[bN];refine⟨λx hx=>?_,?_⟩
  ·obtain⟨k,hk⟩:=cq hx;obtain⟨h,d,z⟩:=u k x hk;exact(led_apart c d z).1
  ·rw[bF];intro a b L N M x hx y f e;obtain⟨g,g1,H⟩:=u a _ (ad L);obtain⟨v,o,B⟩:=u b _ (ad N);rcases((led_apart c g1 H).2 x).1 hx with hx|⟨j,hx⟩
   ·rcases((led_apart c o B).2 y).1 f with f|⟨D,f⟩
    ·have:=c.2.4 a g b v x y g1 o hx f e;omega
    ·exact c.2.5 a g b v D x y g1 o hx f e
   ·rcases((led_apart c o B).2 y).1 f with f|⟨D,f⟩
    ·exact c.2.5 b v a g j y x o g1 f hx e.symm
    ·have:=(T0 c.allOk g1 o hx.2.1 f.2.1 e).1;omega
 refine(List.perm_ext_iff_of_nodup (Q.imp (λq e=>q (by rw[e]))) (c.2.2.imp (λq e=>q (by rw[e])))).2 (λm=>?_);rw[c.2.3,List.mem_flatten];constructor
 ·rintro⟨x,hx,hm⟩;obtain⟨k,hk⟩:=cq hx;obtain⟨h,d,z⟩:=u k x hk;rcases((led_apart c d z).2 m).1 hm with q|⟨j,q⟩
  ·exact aw ⟨k,h,d,q⟩
  ·exact aG ⟨k,h,j,d,q⟩
 ·have r:∀(k:Nat) (h:HW),s.1[k]?=I h->∃x,A[k]?=I x:=λk h hk=>by have:=c.lt hk;rw[<-h2]at this;exact⟨_,ad this⟩
  rintro(⟨k,h,d,q⟩|⟨k,h,j,d,q⟩)
  ·obtain⟨x,hx⟩:=r k h d;exact⟨x,bo hx,((led_apart c d (w k h x d hx)).2 m).2 (aw q)⟩
  ·obtain⟨x,hx⟩:=r k h d;exact⟨x,bo hx,((led_apart c d (w k h x d hx)).2 m).2 (aG ⟨j,q⟩)⟩
theorem OO(d:WI nms n t s T){Z l:List Mg}(g:LedN s n l)(j:De Z)(c:Z.Perm l):Z.Perm T/\Z.Pairwise λa b=>a.1<b.1:=by have c:=c.trans (TP d g);refine⟨c,?_⟩;have f:Z.Pairwise λa b=>a.1≠b.1:=(c.pairwise_iff (λ{_ _} q e=>q e.symm)).2 d.2.2;refine(j.and f).imp (λ{a b} q=>?_);have h1:=q.1;have h2:=q.2;omega
end
section
variable{L:Nat->Prop}{W:Nat}{w:ax}{s:WSt}
theorem U8(d:WM L W s w){k j:Nat}{h:HW}(hk:s.1[j]?=I h):aq ab 62 #[ah (I ⟨h.H,0,E⟩),Y G (k:Int)] w λe w'=>(∃ev,e=ac (az #[Y G (Z5 s k j),ev]))/\w=w':=by
 refine(Pp d hk k).mono ?_;rintro e w' ⟨⟨b,c⟩|⟨b,c⟩,rfl⟩
 ·have a:Z5 s k j=0:=by unfold Z5;rw[hk];simp only;rw[b,if_neg oD]
  rw[a];exact⟨⟨_,c⟩,rfl⟩
 ·have a:Z5 s k j=h.1.8 k:=by unfold Z5;rw[hk];simp only;rw[b,if_pos rfl]
  rw[a];exact⟨⟨_,c⟩,rfl⟩
theorem Yi(w:ax):aq ab 138 #[aj E 0 0,Y G 0,Y G 0,br (bp 65) #[] #[]] w λe w'=>e=ac (az #[])/\w=w':=by
 go_enter cV,cT;go_wp2;go_loopg[8] 1 (λgk v wr=>v=Y G 1/\w=wr);case atStart=>exact⟨rfl,rfl⟩
 case round=>obtain⟨rfl,rfl⟩:=hrel;go_wp2;go_end0;exact⟨rfl,rfl⟩
theorem WX(w:ax):aq ab 64 #[aj E 0 0,br (bp 65) #[] #[]] w λe w'=>e=ac (az #[])/\w=w':=by
 have a:=Aa (Yi w);have HS:Hid (aq ab 106 #[aj E 0 0,Y G 0,br (bp 65) #[] #[]] w λe w'=>e=ac (az #[])/\w=w'):=Aa (by
  go_enter cU,cS;go_wp2;go_loopg[7,8] 1 (λgk b vb wr=>b=Y G 0/\vb=Y G 20/\w=wr);case atStart=>exact⟨rfl,rfl,rfl⟩
  case round=>
   obtain⟨rfl,rfl,rfl⟩:=hrel;go_wp2_with(go_at_call 138;go_must(refine a.o.mono ?_);rintro e w1 ⟨rfl,rfl⟩;refine ak ?_);refine Aa ?_;go_wp2;go_loopg[6,7,8,9] 1 (λgk c d f v9 wr=>c=Y G 20/\w=wr);case atStart=>exact⟨rfl,rfl⟩
   case round=>obtain⟨rfl,rfl⟩:=hrel;go_wp2;go_end0;exact⟨rfl,rfl⟩);clear a;go_enter dg,cZ;go_wp2_with(go_at_call 106;go_must(refine HS.o.mono ?_);rintro e w1 ⟨rfl,rfl⟩;refine ak ?_);refine Aa ?_;go_wp2;go_end0;exact⟨rfl,rfl⟩
theorem Sf(hM:WM L W s w)(b3:ES s):aq ab 30 #[ah (I ⟨W,0,E⟩)] w λe w'=>∃v',e=ac v'/\Hid (∃Z l,w'.ownsRow w.1.size 52 5 v' Z.length (AK Z)/\De Z/\Z.Perm l/\LedN s s.1.length l/\aA w.1.size w w'):=by
 have h4:=(Ep hM).choose_spec.choose_spec.2;have HA:=Aa (GH hM b3);obtain⟨n,V⟩:∃n,Hid (s.1.length=n):=⟨_,rfl⟩;rw[V.o]at HA h4;have HM:=Aa hM;have b8:=Aa b3;clear hM b3;go_enter func30,ntmps30;go_wp2_with(go_at_call 60;go_must(refine HA.o.mono ?_);rintro e w1 ⟨v1,rfl,h1⟩;refine ak ?_);refine Aa ?_;obtain⟨a1,d5,rfl⟩:=Ao h1.o.1;clear HA;go_wp2;go_loopg[3,13] n (λgk l v wr=>∃i:Nat,v=Y G i/\i<=n/\n-i<=gk/\Hid (∃x,wr.ownsRow w1.1.size 52 5 l x.length (AK x)/\LedN s i x/\x.length<=3900*i)/\Hid (aA w1.1.size w1 wr));case atStart=>exact⟨0,rfl,aO _,ag _,Aa ⟨[],ba _ _ _ _,LedN.nil s,aO _⟩,Aa (aB _ _)⟩
 case round=>
  obtain⟨i,rfl,d9,d8,HX,HB⟩:=hrel;by_cases d3:i<n
  ·obtain⟨h,hk⟩:∃h,s.1[i]?=I h:=⟨_,ad (by rw[V.o];omega)⟩;obtain⟨ii,pp,h0⟩:=b8.o i h hk;obtain⟨g,rfl,c5,hc⟩:=Mj h1.o.1 hk d3;have q0:=(HB.o.cell (p:=⟨g,i,E⟩) c5).trans hc;have y:aA w.1.size w wr:=Ad h1.o.2 h1.o.2.4 HB.o;obtain⟨x,c7,c8,d4⟩:=HX.o;have a3:Hid (aq ab 61 #[ah (I ⟨h.H,0,E⟩)] wr λe w'=>∃v',e=ac v'/\Hid (∃ks,Ie (λt=>h.1.Q (aJ t)) ks/\(Bo (λt=>h.1.Q (aJ t)) ks).length<=780/\w'.ownsRow wr.1.size 52 5 v' (Bo (λt=>h.1.Q (aJ t)) ks).length (AK (Bo (λt=>h.1.Q (aJ t)) ks))/\aA wr.1.size wr w')):=Aa ((Xl (HM.o.below y) hk h0).mono (λe w' q=>by obtain⟨ks,v',q1,q2⟩:=q;exact⟨v',q1,Aa ⟨ks,q2.o.1,TN h0 q2.o.1,q2.o.2.1,q2.o.2.2⟩⟩));have a7:=Aa c7;have d0:=Aa c8;obtain⟨xl,a9⟩:∃xl,Hid (x.length=xl):=⟨_,rfl⟩;rw[a9.o]at a7 d4;have HK:=Aa hk;have H0:=Aa h0;have A:Hid (∀(j:Nat) wx,aA w1.1.size w1 wx->aq ab 63 #[ah (I ⟨h.H,0,E⟩),Y G (j:Int),Y G (Z5 s i j)] wx λe w'=>∃v',e=ac v'/\Hid (w'.ownsRow wx.1.size 52 5 v' (Me h.1 j (Z5 s i j)).length (AK (Me h.1 j (Z5 s i j)))/\aA wx.1.size wx w')):=Aa (λj wx hB=>Sg (HM.o.below (Ad h1.o.2 h1.o.2.4 hB)) hk h0 j _ (Vz b8.o i j));obtain⟨H,HH⟩:∃H,Hid (h.H=H):=⟨_,rfl⟩;rw[HH.o]at a3 q0 hc A;clear c7 c8 HX y h0 hk hc;go_wp2_with(go_at_call 61;go_must(refine a3.o.mono ?_);rintro e w2 ⟨v2,rfl,h2⟩;refine ak ?_);refine Aa ?_;obtain⟨ks,k1,k3,k4,k5⟩:=h2.o;have c9:=Aa k1;have a4:=Aa (B0 a7.o k5);have M:Hid (aA w1.1.size w1 w2):=Aa (Ad HB.o HB.o.4 k5);have X:w1.1.size<=w2.1.size:=M.o.4;obtain⟨e4,b7⟩:∃e4,Hid (Bo (λt=>h.1.Q (aJ t)) ks=e4):=⟨_,rfl⟩;rw[b7.o]at k3 k4;obtain⟨nt,a8⟩:∃nt,Hid (e4.length=nt):=⟨_,rfl⟩;rw[a8.o]at k3 k4;have b6:=Aa k4;clear k1 k4 k5 h2 a3 a7;have c1:xl+nt<=100000:=O;go_wp2_with(at_builtin;go_must(refine Lz rfl _ _ rfl w1.1.size wr.1.size u3 v2 xl nt x e4 rfl rfl a4.o b6.o c1 X ?_));intro v5 w5 h5;have b4:Hid (aA w1.1.size w1 w5):=Aa (AW M.o a4.o h5.o.2 M.o.4 (ag _));have b9:Hid (∃z,w5.ownsRow w1.1.size 52 5 v5 (xl+z.length) (AK (x++z))/\z=e4++Fh s i h.1 0/\z.length<=780+780*0):=Aa ⟨e4,by rw[a8.o];exact h5.o.1,by simp[Fh],by rw[a8.o];omega⟩;clear h5 a4 b6 M X c1;go_wp2;go_loopg[3,22] 4 (λd2 l v wx=>∃j:Nat,v=Y G j/\j<=4/\4-j<=d2/\Hid (∃z,wx.ownsRow w1.1.size 52 5 l (xl+z.length) (AK (x++z))/\z=e4++Fh s i h.1 j/\z.length<=780+780*j)/\Hid (aA w1.1.size w1 wx));case atStart=>exact⟨0,rfl,aO _,ag _,b9,b4⟩
   case round=>
    clear b9 b4;obtain⟨j,rfl,e0,d7,HZ,d⟩:=hrel;by_cases d6:j<4
    ·obtain⟨z,z1,z2,z3⟩:=HZ.o;obtain⟨zl,b0⟩:∃zl,Hid (z.length=zl):=⟨_,rfl⟩;rw[b0.o]at z1 z3;have P:=Aa z1;have d1:=Aa z2;have a2:Hid (aA w.1.size w wr):=Aa (Ad h1.o.2 h1.o.2.4 d.o);have a:=Aa (Mv (HM.o.below a2.o) (j:Int));have m:=Aa (A.o j wr d.o);obtain⟨nl,R⟩:∃nl,Hid ((Me h.1 j (Z5 s i j)).length=nl):=⟨_,rfl⟩;have e3:nl<=780:=by rw[<-R.o];exact WA H0.o j _
     obtain⟨N,HN⟩:∃N,Hid (Me h.1 j (Z5 s i j)=N):=⟨_,rfl⟩;rw[R.o,HN.o]at m;have c:Hid (∀(v6:bj) (w6:ax),w6.ownsRow w1.1.size 52 5 v6 (xl+zl+nl) (AK (x++(z++N)))->∃z',w6.ownsRow w1.1.size 52 5 v6 (xl+z'.length) (AK (x++z'))/\z'=e4++Fh s i h.1 (j+1)/\z'.length<=780+780*(j+1)):=Aa (λv6 w6 ho=>⟨z++N,by
      have e:(z++N).length=zl+nl:=by rw[ae,b0.o,<-HN.o,R.o]
      rw[e,<-cu];exact ho,by rw[d1.o,Pj,HN.o,al],by rw[ae,b0.o,<-HN.o,R.o];omega⟩);have c3:xl+zl+nl<=100000:=O;clear z1 z2 HZ;by_cases b1:j<n
     ·rw[V.o,BT b1]at a;obtain⟨h',b2⟩:∃h',s.1[j]?=I h':=⟨_,ad (by rw[V.o];omega)⟩;obtain⟨g',eg,-,c4⟩:=Mj h1.o.1 b2 b1;obtain rfl:g=g':=by injection eg with eg;injection eg
      have c0:=(d.o.cell (p:=⟨g,j,E⟩) c5).trans c4;have D:=Aa (U8 (k:=i) (HM.o.below a2.o) b2);obtain⟨H',b5⟩:∃H',Hid (h'.H=H'):=⟨_,rfl⟩;rw[b5.o]at D c0;generalize Z5 s i j=ar at D m;clear c4 b2 eg b5 a A;have a:=Aa (Mv (HM.o.below a2.o) (j:Int));rw[V.o,BT b1]at a;go_wp2_with(go_at_call 33;go_must(refine a.o.mono ?_);rintro e w6 ⟨rfl,rfl⟩;refine ak ?_);refine Aa ?_;go_wp2_with(go_at_call 62;go_must(refine D.o.mono ?_);rintro e w6 ⟨⟨ev,rfl⟩,rfl⟩;refine ak ?_);refine Aa ?_;go_wp2_with(go_at_call 63;go_must(refine m.o.mono ?_);rintro e w7 ⟨v7,rfl,S⟩;refine ak ?_);refine Aa ?_;have u:=Aa (B0 P.o S.o.2);have b:Hid (aA w1.1.size w1 w7):=Aa (Ad d.o d.o.4 S.o.2);have f:w1.1.size<=w7.1.size:=b.o.4;have B:=Aa S.o.1;clear S D m a P c0;go_wp2_with(at_builtin;go_must(refine Lz rfl _ _ rfl w1.1.size wr.1.size u3 v7 (xl+zl) nl (x++z) N rfl rfl u.o B.o c3 f ?_));intro v8 w8 U;have a0:Hid (aA w1.1.size w1 w8):=Aa (AW b.o u.o U.o.2 b.o.4 (ag _));have a5:=Aa (c.o v8 w8 (by first|exact U.o.1|(rw[<-List.append_assoc];exact U.out.1)));clear U u B b f c;go_wp2;go_roundg (gk-1);case rel=>exact⟨j+1,by go_num,O,O,a5,a0⟩
      case measure=>omega
     ·have hh:Dq n (j:Int)=ai:=by simp[Dq];omega
      rw[V.o,hh]at a;have ea:Z5 s i j=0:=by unfold Z5;rw[List.getElem?_eq_none (by rw[V.o];omega)]
      rw[ea]at m;clear ea hh A;go_wp2_with(go_at_call 33;go_must(refine a.o.mono ?_);rintro e w6 ⟨rfl,rfl⟩;refine ak ?_);refine Aa ?_;go_wp2_with(go_at_call 63;go_must(refine m.o.mono ?_);rintro e w7 ⟨v7,rfl,S⟩;refine ak ?_);refine Aa ?_;have u:=Aa (B0 P.o S.o.2);have b:Hid (aA w1.1.size w1 w7):=Aa (Ad d.o d.o.4 S.o.2);have f:w1.1.size<=w7.1.size:=b.o.4;have B:=Aa S.o.1;clear S m a P;go_wp2_with(at_builtin;go_must(refine Lz rfl _ _ rfl w1.1.size wr.1.size u3 v7 (xl+zl) nl (x++z) N rfl rfl u.o B.o c3 f ?_));intro v8 w8 U;have a0:Hid (aA w1.1.size w1 w8):=Aa (AW b.o u.o U.o.2 b.o.4 (ag _));have a5:=Aa (c.o v8 w8 (by first|exact U.o.1|(rw[<-List.append_assoc];exact U.out.1)));clear U u B b f c;go_wp2;go_roundg (gk-1);case rel=>exact⟨j+1,by go_num,O,O,a5,a0⟩
      case measure=>omega
    ·obtain rfl:j=4:=O;have HE:Hid (∃x',wr.ownsRow w1.1.size 52 5 u3 x'.length (AK x')/\LedN s (i+1) x'/\x'.length<=3900*(i+1)):=Aa (by obtain⟨z,z1,z2,z3⟩:=HZ.o;refine⟨x++z,by rw[ae,a9.o];exact z1,d0.o.snoc HK.o ⟨ks,c9.o,by rw[b7.o];exact z2⟩,by rw[ae,a9.o];omega⟩);clear HZ A;go_wp2;go_roundg (n-(i+1));case rel=>exact⟨i+1,by go_num,O,O,HE,d⟩
     case measure=>omega
  ·obtain rfl:i=n:=O;have HS:Hid (∃T,(wr.ownsRow w1.1.size 52 5 u3 T.length (AK T)/\T.length<=20000)/\LedN s s.1.length T):=Aa (by obtain⟨x,x1,x2,x3⟩:=HX.o;exact⟨x,⟨x1,O⟩,by rw[V.o];exact x2⟩);have a6:Hid (aq ab 64 #[u3,br (bp 65) #[] #[]] wr λe w'=>e=ac (az #[])/\Hid (∃Z l,w'.ownsRow w.1.size 52 5 u3 Z.length (AK Z)/\De Z/\Z.Perm l/\LedN s s.1.length l/\aA w.1.size w w')):=Aa (by
    obtain⟨T,⟨t1,t2⟩,t3⟩:=HS.o;have y:aA w.1.size w wr:=Ad h1.o.2 h1.o.2.4 HB.o;have c6:=h1.o.2.4;rcases own_rowM t1 with⟨e1,e2⟩|⟨g2,c2,e1,-⟩
    ·subst e1 e2;refine(WX wr).mono ?_;rintro e w' ⟨rfl,rfl⟩;exact⟨rfl,Aa ⟨[],[],ba _ _ _ _,List.Pairwise.nil,cm _,t3,y⟩⟩
    ·subst e1;refine(Ys wr g2 w1.1.size T.length c2 T wr (RW.refl t1 rfl) t2).mono ?_;rintro e w' ⟨rfl,r⟩;obtain⟨Z,r1,r2,r3⟩:=r.o;have hl:=r1.2;refine⟨rfl,Aa ⟨Z,T,?_,r2,r3,t3,?_⟩⟩
     ·rw[hl];exact BR r1.1 c6
     ·exact AW y t1 r1.3 y.4 c6);clear HS HX;go_wp2_with(go_at_call 64;go_must(refine a6.o.mono ?_);rintro e w9 ⟨rfl,h9⟩;refine ak ?_);refine Aa ?_;go_wp2;go_ret;exact⟨_,rfl,h9⟩
end
section
variable{nms:Nat->List Nm}{n t k far i p:Nat}{s:WSt}{T:List Mg}{h g:HW}
theorem Qe(a:On h)(b:h.4.length<300):CE h=0:=by unfold CE;rw[a.1,a.2,if_neg oS,if_neg O,if_neg oS]
theorem bat_wait(c:On h)(m:h.4.length<300)(f:h.1.3=(k:Int))(o:k≠far)(r:far<4):(h.batE far=0/\(h.bat far).1=(if h.1.6 far=[]then FG h.1 far else h.1)/\(h.bat far).1.6 far≠[]/\(h.bat far).4.length<=h.4.length+1/\(h.1.6 far=[]->(h.bat far).4.length=h.4.length+1)/\On (h.bat far)/\(h.1.6 far≠[]\/Ar bd (AA (h.1.Q (aL far)))≠[]))\/(h.batE far≠0/\h.bat far=h/\h.1.6 far=[]/\Ar bd (AA (h.1.Q (aL far)))=[]):=by
 have l:Bm h.1.3 (far:Int)=aE:=by rw[f];exact AE.2 ⟨⟨O,O⟩,O⟩
 have e:Od h.st (far:Int)=if h.1.6 far=[]/\Ar bd (AA (h.1.Q (aL far)))=[]then 8 else 0:=by show(if Bm h.1.3 (far:Int)=aE then(if h.1.9=aE then 6 else if h.1.6 (far:Int).toNat=[]/\Ar bd (AA (h.1.Q (aL (far:Int).toNat)))=[]then 8 else 0)else 2)=_;rw[if_pos l,if_neg (by rw[c.1];simp),an]
 have w0:=Qe c m;have j:=F6 h (far:Int);unfold HW.batE;by_cases hc:h.1.6 far=[]/\Ar bd (AA (h.1.Q (aL far)))=[]
 ·rw[if_pos hc]at e;refine aG ⟨by rw[e];simp,?_,hc.1,hc.2⟩;unfold HW.bat;rw[if_neg (by rw[e];simp)]
 ·rw[if_neg hc]at e;refine aw ?_;rw[e,an];by_cases a:h.1.6 far=[]
  ·have b:Ar bd (AA (h.1.Q (aL far)))≠[]:=λq=>hc ⟨a,q⟩;have eb:h.bat far={h with rs:=FG h.1 far,d:=Tg h.d h.4.length (Be far (Bb h.1 far)),chs:=h.4++[Be far (Bb h.1 far)],N:=h.N+0}:=by unfold HW.bat;rw[an,if_pos ⟨e,a⟩,bc w0]
   refine⟨by simp[a,w0],by rw[eb,if_pos a],?_,by rw[eb];simp,λ_=>by rw[eb];simp,j.2 c,aG b⟩;rw[eb];show Af h.1.6 far (Bb h.1 far) far≠[];rw[Ae];exact Qd b
  ·have eb:h.bat far=h:=by unfold HW.bat;rw[an,if_neg (λq=>a q.2)]
   exact⟨by simp[a],by rw[eb,if_neg a],by rw[eb];exact a,by rw[eb];omega,λq=>absurd q a,j.2 c,aw a⟩
theorem XU(o:HOk g far i p)(b:On g)(r:g.4.length<300)(m:k<4)(v:k≠far){nu:Int}{l:List Mg}(u:nu<=g.1.8 k+1)(c:g.1.8 k<nu->∀x∈l,In (far:Int) x=aE)(d:g.1.8 k<nu->¬Sv g.1.Q l):HW.arrE F g k nu l=0/\On (HW.arr F g k nu l)/\(nu<=g.1.8 k->HW.arr F g k nu l=g/\HW.arrV F g k nu l=g.1.8 k)/\(g.1.8 k<nu->(HW.arr F g k nu l).1=J5 g.1 k (Fa g l) (E9 g l)/\(HW.arr F g k nu l).4.length=g.4.length+1/\HW.arrV F g k nu l=nu):=by
 have w0:=Qe b r;have j:Bm g.1.3 (k:Int)=aE:=by rw[o.2];exact AE.2 ⟨⟨O,O⟩,O⟩
 have e:HW.arF F g k nu l=0:=by
  rw[SL o.1,if_pos j,if_neg (by rw[b.1];simp),an];by_cases q:nu<=g.1.8 k
  ·rw[if_pos q]
  ·rw[if_neg q,if_neg O,if_neg (λ⟨x,hx,hq⟩=>by rw[o.2,c O x hx]at hq;cases hq),if_neg (d O)]
 have a:HW.arrE F g k nu l=0:=by
  unfold HW.arrE;rw[if_neg (λq=>q e)];split
  ·rfl
  ·exact w0
 refine⟨a,(ET g _ _ _).2 b,λq=>⟨?_,?_⟩,λq=>?_⟩
 ·unfold HW.arr;rw[an,if_neg (λz=>z.2 q)]
 ·unfold HW.arrV;rw[if_pos a,an,if_pos q]
 ·have f:HW.arr F g k nu l=g.wr (BH k (Fa g l) (E9 g l)) (J5 g.1 k (Fa g l) (E9 g l)) g.2 ((Fa g l).length+(E9 g l).length):=by unfold HW.arr;rw[an,if_pos ⟨e,O⟩]
  rw[f,bc w0];refine⟨rfl,oS,?_⟩;unfold HW.arrV;rw[if_pos a,an,if_neg O];omega
theorem VE(b:On h)(j:h.4.length<300)(a:h.1.3=(k:Int))(l:k≠far)(m:far<4)(f:h.1.6 far≠[]):(h.came far (h.1.7 far)).1=I3 h.1 far/\(h.came far (h.1.7 far)).4.length=h.4.length+1/\On (h.came far (h.1.7 far)):=by
 have w0:=Qe b j;have d:Bm h.1.3 (far:Int)=aE:=by rw[a];exact AE.2 ⟨⟨O,O⟩,O⟩
 have e:SS h.st (far:Int) (h.1.7 far)=0:=by show(if Bm h.1.3 (far:Int)=aE then(if h.1.9=aE then 6 else if h.1.6 (far:Int).toNat=[]\/h.1.7 far≠h.1.7 (far:Int).toNat then 8 else 0)else 2)=_;rw[if_pos d,if_neg (by rw[b.1];simp),an,if_neg (λq=>q.elim f (λz=>z rfl))]
 have c:h.came far (h.1.7 far)=h.wr (Bk far) (I3 h.1 far) h.2 0:=by unfold HW.came;rw[if_neg (λq=>q e),an]
 refine⟨by rw[c,bc w0],by rw[c,bc w0];simp,(GK h _ _).2 b⟩
def Of(k far:Nat)(h:HW):Pk:=⟨(k:Int),(h.bat far).1.7 far,ai,Cb (h.bat far).1 far,(far:Int)⟩
def Ke(a:(p:Prop)->Decidable p)(k far:Nat)(h g:HW):HW:=HW.arr a g k ((h.bat far).1.7 far) (Cb (h.bat far).1 far)
def ZL(far:Nat)(h:HW):HW:=(h.bat far).came far ((h.bat far).1.7 far)
def XP(k far:Nat)(h:HW):Pk:=⟨(far:Int),(h.bat far).1.7 far,aE,[],(k:Int)⟩
def Kf(s:WSt)(k far:Nat)(h:HW):WSt:={s.setH k (h.bat far)with ps:=[Of k far h]}
def KW(a:(p:Prop)->Decidable p)(s:WSt)(k far:Nat)(h g:HW):WSt:={(s.setH k (h.bat far)).setH far (Ke a k far h g)with ps:=[XP k far h]}
def Um(a:(p:Prop)->Decidable p)(s:WSt)(k far:Nat)(h g:HW):WSt:={((s.setH k (h.bat far)).setH far (Ke a k far h g)).setH k (ZL far h)with ps:=[]}
structure PrOk(s:WSt)(k far:Nat)(h g:HW):Prop where
 ne:k≠far
 hk:s.1[k]?=I h
 hj:s.1[far]?=I g
 on:On h
 og:On g
 lh:h.4.length+1<300
 lg:g.4.length<300
 hm:∀m,D7 h far m->m.5=(far:Int)
 pure:∀u,∀x∈g.1.Q (aJ u),x.kept=aE
theorem PrOk.facts(a:PrOk s k far h g)(b:WI nms n t s T)(e:h.batE far=0):(h.bat far).1=(if h.1.6 far=[]then FG h.1 far else h.1)/\(h.bat far).1.6 far≠[]/\(h.bat far).4.length<=h.4.length+1/\(h.1.6 far=[]->(h.bat far).4.length=h.4.length+1)/\On (h.bat far):=by
 obtain⟨i,p,o⟩:=b.allOk k h a.2;rcases bat_wait a.4 (by have:=a.6;omega) o.2 a.1 (by have:=b.lt a.3;have:=b.1;omega)with⟨-,a1,a2,a3,a4,a5,-⟩|⟨q,-⟩
 ·exact⟨a1,a2,a3,a4,a5⟩
 ·exact absurd e q
theorem ZP(b:PrOk s k far h g)(a:s.2=[])(e:h.batE far=0):s.sendB k h far=Kf s k far h:=by unfold WSt.sendB Kf;rw[if_pos e];unfold WSt.send Of HW.batN HW.batL;rw[if_pos e,if_pos e,an];have:(s.setH k (h.bat far)).2=[]:=a;rw[this,if_pos oS];rfl
theorem PrOk.arr(c:PrOk s k far h g)(A:WI nms n t s T)(ht:t<=113)(a3:s.2=[])(e:h.batE far=0):HW.arrE F g k ((h.bat far).1.7 far) (Cb (h.bat far).1 far)=0/\HW.arrV F g k ((h.bat far).1.7 far) (Cb (h.bat far).1 far)=(h.bat far).1.7 far/\On (Ke F k far h g)/\(((h.bat far).1.7 far<=g.1.8 k/\Ke F k far h g=g)\/(g.1.8 k<(h.bat far).1.7 far/\(Ke F k far h g).1=J5 g.1 k (Fa g (Cb (h.bat far).1 far)) (E9 g (Cb (h.bat far).1 far))/\(Ke F k far h g).4.length=g.4.length+1)):=by
 have a1:=A.lt c.2;have L:=A.lt c.3;have a0:=A.1;have d:WI nms n t (s.setH k (h.bat far)) T:=A.bat ht c.2 L;have r:(s.setH k (h.bat far)).1[k]?=I (h.bat far):=Ah c.2;have l:(s.setH k (h.bat far)).1[far]?=I g:=by rw[Ai c.2 (Ne.symm c.1)];exact c.3
 obtain⟨c1,c2,c3⟩:=d.2.7 k _ far g c.1 r l;obtain⟨i,p,o⟩:=d.allOk far g l;obtain⟨i1,p1,w⟩:=d.allOk k _ r;have f:∀(k:Nat) (x:HW),(s.setH k (h.bat far)).1[k]?=I x->True:=λ_ _ _=>trivial;have mem:∀x∈Cb (h.bat far).1 far,D7 (h.bat far) far x/\x.1∈(h.bat far).1.6 far:=λx hx=>(IL (w.1.q.1 _)).1 hx;have fx:=c.facts A e;have hw:∀m,D7 (h.bat far) far m↔D7 h far m:=λm=>by unfold D7;rw[fx.1];split<;>rfl
 have R:∀x∈Cb (h.bat far).1 far,In (far:Int) x=aE:=λx hx=>by obtain⟨D,m2⟩:=mem x hx;have hr:=(S7 w far).2 x hx;have hh:=c.8 x ((hw x).1 D);obtain⟨y,v,-,rfl⟩:=CP D;have B:=w.1.q.4 far y v;rw[w.2]at B;unfold In;have hn:=c.1;rw[hr,hh,B];simp;omega
 have U:g.1.8 k<(h.bat far).1.7 far->¬Sv g.1.Q (Cb (h.bat far).1 far):=λa2 ⟨j,x,hx,hq⟩=>by
  have V:=bo hx;obtain⟨D,m2⟩:=mem x V;rcases hq with⟨u,y,v,f⟩|⟨y,v,f⟩
  ·have P:CF g y.m:=⟨u,by unfold Ap;refine bt.2 ⟨y,bH.2 ⟨v,c.9 u y v⟩,rfl⟩⟩;refine d.2.5 far g k _ far y.m x l r P ⟨?_,D,λz=>?_⟩ f
   ·rw[w.2];exact AE.2 ⟨⟨O,O⟩,by have:=c.1;omega⟩
   ·rw[IF (λk h hk=>by obtain⟨i,p,o⟩:=d.allOk k h hk;exact o.2) l O c.1]at z;omega
  ·have S:(Cb (h.bat far).1 far).Pairwise λa b=>a.1≠b.1:=by unfold Cb;exact(Ia (w.1.q.1 _)).filter _
   obtain⟨a,ha,H⟩:=List.mem_take_iff_getElem.1 v;obtain⟨M,N⟩:=aa.1 hx;have:=bF.1 S a j O M O;rw[H,N]at this;exact this f
 obtain⟨q1,q2,X,W⟩:=XU o c.5 c.7 O c.1 c2 (λ_=>R) U;refine⟨q1,?_,q2,?_⟩
 ·by_cases z:(h.bat far).1.7 far<=g.1.8 k
  ·rw[(X z).2];omega
  ·exact(W O).2.2
 ·by_cases z:(h.bat far).1.7 far<=g.1.8 k
  ·exact aw ⟨z,(X z).1⟩
  ·exact aG ⟨O,(W O).1,(W O).2.1⟩
theorem ZQ(j:PrOk s k far h g)(f:WI nms n t s T)(l:t<=113)(c:s.2=[])(e:h.batE far=0):WSt.comes F ((Kf s k far h).rem 0) far g (Of k far h)=KW F s k far h g:=by obtain⟨d,a2,-⟩:=j.arr f l c e;unfold WSt.comes;rw[if_neg (show¬(Of k far h).3=aE by simp[Of])];have a:HW.arrE F g (Of k far h).1 (Of k far h).2 (Of k far h).4=0:=d;rw[if_pos a];unfold WSt.send;rw[if_pos (by simp[WSt.rem,Kf,WSt.setH])];have b:HW.arrV F g (Of k far h).1 (Of k far h).2 (Of k far h).4=(h.bat far).1.7 far:=a2;rw[b];rfl
theorem ZR(s:WSt)(k far:Nat)(h g:HW):WSt.comes F ((KW F s k far h g).rem 0) k (h.bat far) (XP k far h)=Um F s k far h g:=by unfold WSt.comes;rw[if_pos (show(XP k far h).3=aE from rfl)];rfl
theorem XQ(b:PrOk s k far h g)(r:WI nms n t s T)(l:t<=113)(c:s.2=[])(e:h.batE far=0):WI nms n t (Kf s k far h) T/\WI nms n t (KW F s k far h g) T/\WI nms n t (Um F s k far h g) T/\(∃i p,Ko (Kf s k far h) (Of k far h) far g i p)/\(∃i p,Ko (KW F s k far h g) (XP k far h) k (h.bat far) i p):=by
 have u:=r.lt b.3;have w1:WI nms n t (Kf s k far h) T:=by rw[<-ZP b c e];exact r.sendB0 l c b.2 u
 obtain⟨a,h1,x,y,m,w⟩:=w1.deliver l (j:=0) (q:=Of k far h) rfl;obtain rfl:a=far:=by have:=m.1;simp only[Of]at this;omega
 have f:(Kf s k a h).1[a]?=I g:=by show(s.setH k (h.bat a)).1[a]?=I g;rw[Ai b.2 (Ne.symm b.1)];exact b.3
 obtain rfl:h1=g:=af (m.2.symm.trans f);rw[ZQ b r l c e]at w;obtain⟨d,h2,i2,z,o,w3⟩:=w.deliver l (j:=0) (q:=XP k a h) rfl;obtain rfl:d=k:=by have:=o.1;simp only[XP]at this;omega
 have v:(KW F s d a h h1).1[d]?=I (h.bat a):=by show((s.setH d (h.bat a)).setH a (Ke F d a h h1)).1[d]?=I (h.bat a);rw[Ai (h:=h1) (by exact f) b.1];exact Ah b.2
 obtain rfl:h2=h.bat a:=af (o.2.symm.trans v);rw[ZR]at w3;exact⟨w1,w,w3,⟨x,y,m⟩,⟨i2,z,o⟩⟩
end
structure KP(nms:Nat->List Nm)(n t:Nat)(T:List Mg)(a:Nat->WSt->Prop):Prop where
 wi:∀m s,a m s->WI nms n t s T/\s.2=[]
 yes:∀k far s h g,k<n->far<n->k≠far->a (k*n+far) s->s.1[k]?=I h->s.1[far]?=I g->h.batE far=0->PrOk s k far h g/\a (k*n+far+1) (Um F s k far h g)
 no:∀k far s h,k<n->far<n->a (k*n+far) s->s.1[k]?=I h->h.batE far≠0->a (k*n+far+1) (s.setH k (h.bat far))
def KA(n:Nat)(a:Nat->WSt->Prop)(m:Nat)(s:WSt):Prop:=(s.2=[]/\a (m+1) s)\/∃k far s0 h g,m=k*n+far/\k<n/\far<n/\k≠far/\a m s0/\s0.1[k]?=I h/\s0.1[far]?=I g/\h.batE far=0/\(s=Kf s0 k far h\/s=KW F s0 k far h g)
theorem SP{h:HW}{k:Nat}(a:h.1.3=(k:Int)):h.batE (k:Int)≠0:=by
 have e:Od h.st (k:Int)=2:=by show(if Bm h.1.3 (k:Int)=aE then _ else(2:Int))=2;rw[if_neg (λq=>(AE.1 q).2 a.symm)]
 unfold HW.batE;rw[e];simp
theorem JD{nms:Nat->List Nm}{n t:Nat}{T:List Mg}(v:t<=113){L:Nat->WSt->Prop}{l:WSt->Prop}{M:Nat->WSt->Prop}(f:KP nms n t T M)(len:∀j s,L j s->s.1.length=n)(ok:∀j s h,L j s->s.1[j]?=I h->∃i p,HOk h j i p)(on:∀j s h,L j s->s.1[j]?=I h->h.1.9=ai->L (j+1) (s.setH j (h.cut (-1))))(up:∀j s h H',L j s->s.1[j]?=I h->h.1.9=aE->L (j+1) (s.setH j ((h.cut (-1)).anew H')))(a0:∀s,L n s->l s)(del0:Vq l)(k0:∀s,l s->s.2=[]->M 0 s):Lx n L l M (KA n M) where
 len:=len
 ok:=ok
 on:=on
 up:=up
 a0:=a0
 del0:=del0
 k0:=k0
 klen:=λm s h=>by obtain⟨h1,h2⟩:=f.1 m s h;have:=h1.8;exact⟨h1.2.1,h2,O,O⟩
 kok:=λm s k h hk b=>(f.1 m s hk).1.allOk k h b
 send:=λk far s h hk d hs b=>by
  obtain⟨h1,h2⟩:=f.1 _ s hs;obtain⟨i,p,o⟩:=h1.allOk k h b;by_cases e:h.batE far=0
  ·have a:k≠far:=λq=>by subst q;exact SP o.2 e
   obtain⟨g,hg⟩:=h1.get d;obtain⟨u,w⟩:=f.2 k far s h g hk d a hs b hg e;exact aG ⟨k,far,s,h,g,rfl,hk,d,a,hs,b,hg,e,aw (ZP u h2 e)⟩
  ·unfold WSt.sendB;rw[if_neg e];exact aw ⟨h2,f.3 k far s h hk d hs b e⟩
 del:=λm s q r hs e=>by
  rcases hs with⟨z,-⟩|⟨k,far,s0,h,g,rfl,hk,d,a,c,b,hg,eb,hs⟩
  ·rw[z]at e;cases e
  ·obtain⟨w0,w1⟩:=f.1 _ s0 c;obtain⟨u,w⟩:=f.2 k far s0 h g hk d a c b hg eb;obtain⟨H,v2,v3,⟨A,B,x⟩,⟨i2,D,y⟩⟩:=XQ u w0 v w1 eb;rcases hs with rfl|rfl
   ·obtain⟨rfl,rfl⟩:Of k far h=q/\[]=r:=by have e:[Of k far h]=q::r:=e;exact List.cons.inj e
    refine⟨far,g,A,B,x,?_⟩;rw[ZQ u w0 v w1 eb];exact aG ⟨k,far,s0,h,g,rfl,hk,d,a,c,b,hg,eb,aG rfl⟩
   ·obtain⟨rfl,rfl⟩:XP k far h=q/\[]=r:=by have e:[XP k far h]=q::r:=e;exact List.cons.inj e
    refine⟨k,h.bat far,i2,D,y,?_⟩;rw[ZR];exact aw ⟨rfl,w⟩
 ka:=λm s hs e=>by
  rcases hs with⟨-,z⟩|⟨k,far,s0,h,g,rfl,hk,d,a,c,b,hg,eb,rfl|rfl⟩
  ·exact z
  ·cases e
  ·cases e
end
end Go.Proofs.YtgkcfpbndgfdlaaGreatDoor
