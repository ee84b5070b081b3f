import Derived.Test.YtkabgmdjfiidhaaGreatDoorZHpWd
import Derived.Maps.AppendAt
set_option linter.all false
set_option maxHeartbeats 0
set_option maxRecDepth 99999
open Option renaming none->F,some->I
open Go.Value renaming string->Z,pointer->G,int->Y,slice->aa,ownBlock->aB,iface->aV,agg->bd,bool->bh,tuple->bi
open Array renaming getElem?_setIfInBounds->J,getElem?_eq_some_iff->ak,toList_inj->aZ
open Go.IntKind renaming i64->E
open List renaming mem_filter->C,filter_cons_of_neg->ah,filter_cons_of_pos->ai,length_filter_le->au,mem_cons_of_mem->av,map_cons->aE,mem_cons_self->aJ,pairwise_cons->aK,mem_cons->aM,length_eq_zero_iff->aO,length_append->aW,mem_map->aX,length_take->bb,length_map->bc
open Bool renaming true->T,false->ar,and_eq_true->aN,and_eq_false_iff->aQ,not_eq_true->ba
open Go.Proofs.Tryz renaming prog->ab,underlying22->aY
open Go renaming Value->ac,World->af,rounds_succ->aL,wpList_append_own_at->aT,Calls->aU,DataW->be
open Or renaming inr->ad,inl->an
open And renaming intro->ae
open Sum renaming inl->ag,inr->aF
open Go.RowKit.Below renaming heap_setCell->aj,refl->aD
open Nat renaming le_trans->al,le_refl->ax,lt_of_lt_of_le->ay
open Go.Ending renaming returned->am
open Go.RowKit renaming Below->ao
open Go.Lit renaming string->az,sameKey->bg
open Go.RowKit.Hid renaming out->aA
open Go.World renaming ownsRow_nil->aC,frozen?_of_block->aP,cell?_of_block->aS,setCell->bf
open Option.some renaming inj->aG
open Go.Obj renaming cells->aH
open Go.ByteArray renaming toList_eq->aI
open Go.Instr renaming index->aR
open Go.Proofs.Tryz
namespace Go.Proofs.YtkabgmdjfiidhaaGreatDoor
section
open Go.RowKit Go.Maps
def C9(id:Int)(a:List Mg):List Mg:=a.filter λm=>decide (m.5=id)
def DO(id:Int)(a:List Mg):List Mg:=a.filter λm=>!decide (m.5=id)
theorem Iz(id:Int)(a:List Mg):(C9 id a).length<=a.length:=au _ _
theorem K9(id:Int)(a:List Mg):(DO id a).length<=a.length:=au _ _
theorem Vj(id:Int)(a:List Mg)(m:Mg)(h:m.5=id):C9 id (a++[m])=C9 id a++[m]:=by simp[C9,h]
theorem Vl(id:Int)(a:List Mg)(m:Mg)(h:m.5=id):DO id (a++[m])=DO id a:=by simp[DO,h]
theorem Vi(id:Int)(a:List Mg)(m:Mg)(h:m.5≠id):C9 id (a++[m])=C9 id a:=by simp[C9,h]
theorem Vk(id:Int)(a:List Mg)(m:Mg)(h:m.5≠id):DO id (a++[m])=DO id a++[m]:=by simp[DO,h]
def Ia(id:Int)(ids:List Int)(a:List Mg):Ch:=⟨2,⟨⟨#[]⟩,⟨#[]⟩,0⟩,0,ids,C9 id a,[],DO id a⟩
theorem Xc{id:Int}{ids:List Int}{a:List Mg}(hi:∀z∈ids,0<=z/\z<=1099511627776)(d:ids.length<=1000)(b:∀m∈a,right m=T)(c:a.length<=1000):(Ia id ids a).ok where
 okKind:=⟨by simp[Ia],by simp[Ia]⟩
 okName:=by simp[Ia]
 okTo:=by simp[Ia]
 sz:=⟨by simp[Ia,ByteArray.size],by simp[Ia,ByteArray.size]⟩
 nh:=⟨by simp[Ia],by simp[Ia]⟩
 okHouse:=⟨by simp[Ia],by simp[Ia]⟩
 okIds:=hi
 few:=⟨d,al (Iz _ _) c,by simp[Ia],al (K9 _ _) c⟩
 okAll:=⟨λm h=>b m (C.1 h).1,by simp[Ia],λm h=>b m (C.1 h).1⟩
structure CmL(w:af)(X:Nat)(ids a b:ac)(d e:List Mg)(W:af):Prop where
 box:Blk W X #[Y E 2,Z ⟨#[]⟩,Z ⟨#[]⟩,Y E 0,Y E 0,ids,a,aa F 0 0,b] 120
 oq:W.ownsRow (X+1) 84 5 a d.length (AS d)
 ow:W.ownsRow (X+1) 84 5 b e.length (AS e)
 ne:∀c,a.ownBlock=I c->b.ownBlock≠I c
 bel:ao w.1.size w W
 le:w.1.size<=X
theorem CmL.lt{w W:af}{X:Nat}{ids b c:ac}{a d:List Mg}(h:CmL w X ids b c a d W):X<W.1.size:=(ak.1 h.1).1
theorem CmL.on{w W b:af}{X:Nat}{ids d e:ac}{c f:List Mg}(h:CmL w X ids d e c f W)(a:ao W.1.size W b):CmL w X ids d e c f b:=⟨h.1.after a,Cr h.2 a,Cr h.3 a,h.4,Ab h.5 h.5.4 a,h.6⟩
theorem CP{w:af}{B e z n:Nat}{v:ac}{b:List ac}(h:w.ownsRow B e z v n b){c:Nat}(a:v.ownBlock=I c):B<=c/\c<w.1.size:=h.lt c a
theorem CmL.queued{w W w5:af}{X:Nat}{ids j n b:ac}{i q:List Mg}{m:Mg}(h:CmL w X ids j n i q W)(o:w5.ownsRow (X+1) 84 5 b (i.length+1) (AS i++mc m))(d:W.grownBy w5 j.ownBlock)(f:b.ownBlock=j.ownBlock\/b.ownBlock=I W.1.size):CmL w X ids b n (i++[m]) q (w5.setCell ⟨X,6,F⟩ b):=by
 have l:w5.1[X]?=W.1[X]?:=d.5 X h.lt (λe=>by have:=(CP h.2 e.symm).1;omega);have g:Blk w5 X #[Y E 2,Z ⟨#[]⟩,Z ⟨#[]⟩,Y E 0,Y E 0,ids,j,aa F 0 0,n] 120:=l.trans h.1;refine⟨g.n6 b,?_,Ap (Ap h.3 (λc a=>d.5 c (CP h.3 a).2 (λe=>h.4 c e.symm a))) (λc a=>aj w5 ⟨X,6,F⟩ b c (by show c≠X;have:=(CP h.3 a).1;omega)),λc a p=>?_,?_,h.6⟩
 ·rw[B7,aW];exact Ap o (λc a=>aj w5 ⟨X,6,F⟩ b c (by show c≠X;have:=(CP o a).1;omega))
 ·rcases f with f|f
  ·exact h.4 c (f▸a) p
  ·rw[a]at f;have:=(CP h.3 p).2;have:=aG f;omega
 ·refine⟨d.1.trans h.5.1,d.2.trans h.5.2,d.3.trans h.5.3,by simpa[bf]using al h.5.4 d.4,λk r=>?_⟩;rw[aj w5 ⟨X,6,F⟩ b k (by show k≠X;have:=h.6;omega)];exact(d.5 k (by have:=h.lt;have:=h.6;omega) (λe=>by have:=h.6;have:=(CP h.2 e.symm).1;omega)).trans (h.5.5 k r)
theorem CmL.waits{w W w5:af}{X:Nat}{ids n i b:ac}{q j:List Mg}{m:Mg}(h:CmL w X ids n i q j W)(o:w5.ownsRow (X+1) 84 5 b (j.length+1) (AS j++mc m))(d:W.grownBy w5 i.ownBlock)(f:b.ownBlock=i.ownBlock\/b.ownBlock=I W.1.size):CmL w X ids n b q (j++[m]) (w5.setCell ⟨X,8,F⟩ b):=by
 have l:w5.1[X]?=W.1[X]?:=d.5 X h.lt (λe=>by have:=(CP h.3 e.symm).1;omega);have g:Blk w5 X #[Y E 2,Z ⟨#[]⟩,Z ⟨#[]⟩,Y E 0,Y E 0,ids,n,aa F 0 0,i] 120:=l.trans h.1;refine⟨g.n8 b,Ap (Ap h.2 (λc a=>d.5 c (CP h.2 a).2 (λe=>h.4 c a e.symm))) (λc a=>aj w5 ⟨X,8,F⟩ b c (by show c≠X;have:=(CP h.2 a).1;omega)),?_,λc a p=>?_,?_,h.6⟩
 ·rw[B7,aW];exact Ap o (λc a=>aj w5 ⟨X,8,F⟩ b c (by show c≠X;have:=(CP o a).1;omega))
 ·rcases f with f|f
  ·exact h.4 c a (f▸p)
  ·rw[p]at f;have:=(CP h.2 a).2;have:=aG f;omega
 ·refine⟨d.1.trans h.5.1,d.2.trans h.5.2,d.3.trans h.5.3,by simpa[bf]using al h.5.4 d.4,λk r=>?_⟩;rw[aj w5 ⟨X,8,F⟩ b k (by show k≠X;have:=h.6;omega)];exact(d.5 k (by have:=h.lt;have:=h.6;omega) (λe=>by have:=h.6;have:=(CP h.3 e.symm).1;omega)).trans (h.5.5 k r)
theorem Un.none{w:af}{g cs':Array ac}{pu:Nat->List Mg}{tk:Nat->List Int}{up ut:Nat->ac}(h:Un w g pu tk up ut){u:Nat}(j:cs'[68+u*2]?=I (aa F 0 0))(l:cs'[68+u*2+1]?=I (aa F 0 0))(i:∀k,68<=k->k<78->k≠68+u*2->k≠68+u*2+1->cs'[k]?=g[k]?):Un w cs' (Ae pu u []) (Ae tk u []) (Ae up u (aa F 0 0)) (Ae ut u (aa F 0 0)):=by
 refine⟨λv a=>?_,λv a=>?_,λv a=>?_,λv a=>?_,λv x c a hx d b=>?_,λv x c a hx d b=>?_⟩
 ·by_cases e:v=u
  ·subst e;rw[Ad];exact j
  ·rw[Ac _ _ e];exact(i _ O O O O).trans (h.1 v a)
 ·by_cases e:v=u
  ·subst e;rw[Ad];exact l
  ·rw[Ac _ _ e];exact(i _ O O O O).trans (h.2 v a)
 ·by_cases e:v=u
  ·subst e;rw[Ad,Ad];exact aC _ _ _ _
  ·rw[Ac _ _ e,Ac _ _ e];exact h.3 v a
 ·by_cases e:v=u
  ·subst e;rw[Ad,Ad];exact aC _ _ _ _
  ·rw[Ac _ _ e,Ac _ _ e];exact h.4 v a
 ·by_cases e:v=u
  ·subst e;rw[Ad]at b;simp[aB]at b
  ·rw[Ac _ _ e]at b;by_cases f:x=u
   ·subst f;rw[Ad];simp[aB]
   ·rw[Ac _ _ f];exact h.5 v x c a hx d b
 ·by_cases e:v=u
  ·subst e;rw[Ad]at b;simp[aB]at b
  ·rw[Ac _ _ e]at b;by_cases f:x=u
   ·subst f;rw[Ad];simp[aB]
   ·rw[Ac _ _ f];exact h.6 v x c a hx d b
theorem Hs.freshTD{w0 w:af}{a:Nat->Prop}{H M:Nat}{b:Array ac}{A:ByteArray->List Pl}{B:Nat->List Pl}{N:Nat}(h:Hs w0 a H M b A B N w):∃P1:Nat->Prop,Ev w0 w a P1/\(∀k,P1 k->k<w.1.size)/\(∀k c t,w.1[k]?=I (aH c t (0,0))->t≠113->t≠216->t≠118->¬P1 k)/\P1 H/\(∀D d,DB w D d->¬P1 D)/\∀W,ao w.1.size w W->Hs W P1 H M b A B N W:=by obtain⟨P1,g1,f,e,g,i⟩:=h.freshT;exact⟨P1,g1,f,e,g,λD d j=>e D _ 37 j.1 oD oD oD,i⟩
def Yn(w:af)(P:Nat->Prop)(H M D k:Nat)(a:Array ac)(A:ByteArray->List Pl)(B:Nat->List Pl)(N:Nat)(pu:Nat->List Mg)(tk:Nat->List Int)(up ut:Nat->ac)(u:Nat)(id cnt:Int)(d:Dk)(torn:Int)(down:Bool)(e:Ending)(w':af):Prop:=((pu u=[]/\tk u=[])/\e=am (aV 23 (Y E 8))/\Hs w P H M a A B N w'/\Un w' a pu tk up ut/\DB w' D d)\/(¬(pu u=[]/\tk u=[])/\down=T/\e=am (aV 23 (Y E 6))/\Hs w P H M a A B N w'/\Un w' a pu tk up ut/\DB w' D d)\/(¬(pu u=[]/\tk u=[])/\down=ar/\k=300/\e=am (aV 23 (Y E 4))/\Hs w P H M a A B N w'/\Un w' a pu tk up ut/\DB w' D d)\/(¬(pu u=[]/\tk u=[])/\down=ar/\k<300/\∃b d',SJ d d' k (bs (Ia id (tk u) (pu u)).text) torn b/\DB w' D d'/\((b=ar/\e=am (aV 23 (Y E 14))/\Hs w P H M (a.setIfInBounds 4 (bh T)) A B N w'/\Un w' (a.setIfInBounds 4 (bh T)) pu tk up ut)\/(b=T/\e=am .nilIface/\∃cs',Hs w P H M cs' (Ar (λs=>Ai (tk u) (Az u T (A s))) (C9 id (pu u))) (AR (λj=>Az u T (B j)) (DO id (pu u))) (N+(C9 id (pu u)).length) w'/\Un w' cs' (Ae pu u []) (Ae tk u []) (Ae up u (aa F 0 0)) (Ae ut u (aa F 0 0))/\cs'[2]?=I (Y E ((k:Int)+1))/\cs'[5]?=I (Y E (AG (AG cnt (C9 id (pu u))) (DO id (pu u))))/\∀j,(j<78\/¬(j-78)%4=0)->j≠2->j≠5->j≠68+u*2->j≠68+u*2+1->cs'[j]?=a[j]?)))
def Ay(A:List Pl):List Pl:=(A.filter Pl.kept).map λx=>⟨x.m,-1,ar⟩
theorem Bb(x:Pl)(A:List Pl):Ay (x::A)=if x.kept=T then⟨x.m,-1,ar⟩::Ay A else Ay A:=by
 unfold Ay;by_cases h:x.kept=T
 ·rw[if_pos h,ai h,aE]
 ·rw[if_neg h,ah h]
theorem DG(A B:List Pl):Ay (A++B)=Ay A++Ay B:=by simp[Ay]
theorem Qk(A:List Pl)(m:Mg)(u:Nat):Ay (A++[⟨m,(u:Int),ar⟩])=Ay A:=by
 rw[DG,Bb,if_neg]
 ·simp[Ay]
 ·simp[Pl.kept]
theorem BC(u:Nat)(A:List Pl):Ay (Az u T A)=Ay A:=by
 unfold Az;rw[if_neg O];induction A with
 |nil=>rfl
 |cons x r ih=>
  by_cases a:Dc u T x=T
  ·rw[ah (by simp[a]),Bb,if_neg]
   ·exact ih
   ·unfold Dc at a;simp only[aN,beq_iff_eq,bne_iff_ne,ne_eq,ba]at a;simp only[Pl.kept,a.2,Bool.or_false,decide_eq_true_eq];omega
  ·rw[ai (by simp[a]),aE,Bb,Bb,ih,Cc];have e:(BI u x).kept=x.kept:=by
    unfold BI;split
    ·rename_i hu;unfold Dc at a;simp only[hu,beq_self_eq_true,Bool.true_and,bne_iff_ne,ne_eq,ba,Bool.not_eq_false]at a;simp[Pl.kept,a]
    ·rfl
   rw[e]
theorem Qj(id:Int)(A:List Pl):Ay (D6 id A)=D6 id (Ay A):=by
 unfold D6;induction A with
 |nil=>rfl
 |cons x r ih=>
  by_cases h:x.m.1=id
  ·rw[ah (by simp[h]),ih,Bb];split
   ·rw[ah (by simp[h])]
   ·rfl
  ·rw[ai (by simp[h]),Bb,Bb,ih];split
   ·rw[ai (by simp[h])]
   ·rfl
theorem B5(ids:List Int)(A:List Pl):Ay (Ai ids A)=Ai ids (Ay A):=by
 induction ids generalizing A with
 |nil=>rfl
 |cons i r ih=>show Ay (Ai r (D6 i A))=Ai r (D6 i (Ay A));rw[ih,Qj]
theorem NV(id:Int)(u:Nat)(A:List Pl)(h:∀x∈A,x.m.1=id->x.kept=T):Ay (hold id u A)=Ay A:=by
 unfold hold;induction A with
 |nil=>rfl
 |cons x r ih=>
  rw[aE,Bb,Bb,ih (λy a=>h y (av _ a))];by_cases e:x.m.1=id
  ·rw[if_pos e,h x (aJ ..) e];simp[Pl.kept]
  ·rw[if_neg e]
theorem B0{A:List Pl}{y:Pl}:y∈Ay A↔∃x∈A,x.kept=T/\y=⟨x.m,-1,ar⟩:=by
 unfold Ay;rw[aX];constructor
 ·rintro⟨x,hx,rfl⟩;exact⟨x,(C.1 hx).1,(C.1 hx).2,rfl⟩
 ·rintro⟨x,hx,a,rfl⟩;exact⟨x,C.2 ⟨hx,a⟩,rfl⟩
theorem VX{id:Int}{A:List Pl}{x:Pl}:x∈D6 id A↔x∈A/\x.m.1≠id:=by unfold D6;rw[C,decide_eq_true_eq]
theorem CL{ids:List Int}{A:List Pl}{x:Pl}:x∈Ai ids A↔x∈A/\x.m.1∉ids:=by
 induction ids generalizing A with
 |nil=>simp[Ai]
 |cons i r ih=>
  show x∈Ai r (D6 i A)↔_;rw[ih,VX,aM];constructor
  ·rintro⟨⟨b,a⟩,c⟩;exact⟨b,λh=>h.elim a c⟩
  ·rintro⟨b,a⟩;exact⟨⟨b,λh=>a (an h)⟩,λh=>a (ad h)⟩
theorem BJ{u:Nat}{A:List Pl}{y:Pl}:y∈Az u T A↔∃x∈A,¬(x.u=(u:Int)/\x.t=ar)/\y=BI u x:=by
 unfold Az;rw[if_neg O,aX];constructor
 ·rintro⟨x,hx,rfl⟩;obtain⟨c,d⟩:=C.1 hx;refine⟨x,c,λ⟨a,b⟩=>?_,rfl⟩;simp[Dc,a,b]at d
 ·rintro⟨x,hx,f,rfl⟩;refine⟨x,C.2 ⟨hx,?_⟩,rfl⟩;simp only[Dc,Bool.not_eq_true',aQ,beq_eq_false_iff_ne];by_cases e:x.u=(u:Int)
  ·right;cases ht:x.t with
   |false=>exact absurd ⟨e,ht⟩ f
   |true=>rfl
  ·exact an e
def DF(s:ByteArray)(a:List Mg):List Pl:=(a.filter λm=>decide (m.4=s)).map λm=>⟨m,-1,ar⟩
theorem US(s:ByteArray)(m:Mg)(a:List Mg):DF s (m::a)=if m.4=s then⟨m,-1,ar⟩::DF s a else DF s a:=by
 unfold DF;by_cases h:m.4=s
 ·rw[if_pos h,ai (by simpa using h),aE]
 ·rw[if_neg h,ah (by simpa using h)]
theorem Fa(ms:List Mg):∀(A:ByteArray->List Pl),(∀m∈ms,right m=T)->(ms.Pairwise λa b=>a.1≠b.1)->(∀m∈ms,∀x∈A m.4,x.m.1≠m.1)->∀s,Ar A ms s=A s++DF s ms:=by
 induction ms with
 |nil=>intro A _ _ _ s;simp[Ar,DF]
 |cons m r ih=>
  intro A i g d s;have e:Ar A (m::r)=Ar (CF A m.4 (AX (A m.4) m (-1))) r:=rfl;have f:AX (A m.4) m (-1)=A m.4++[⟨m,-1,ar⟩]:=by unfold AX;rw[if_pos];refine⟨i m (aJ ..),?_⟩;unfold BN;rw[List.any_eq_false];intro x hx;have:=d m (aJ ..) x hx;simpa using this
  rw[e,f,ih _ (λq hq=>i q (av _ hq)) (aK.1 g).2,US]
  ·unfold CF;by_cases h:s=m.4
   ·subst h;simp
   ·rw[if_neg h,if_neg (λe=>h e.symm)]
  ·intro q hq x hx;unfold CF at hx;split at hx
   ·rename_i e2;rcases List.mem_append.1 hx with c|c
    ·exact d q (av _ hq) x (e2▸c)
    ·obtain rfl:=List.mem_singleton.1 c;exact(aK.1 g).1 q hq
   ·exact d q (av _ hq) x hx
def LQr(w:af)(M r n:Nat)(D:be Unit)(g:AN->Option Nat)(vs:AN->ac)(Q:AN->List Pl)(t:List Pl->List Pl)(wr:af)(left:Lit->Bool)(cnt:Nat):Prop:=wr.ranges ab 9 AP M r n D left cnt/\∃vs' Q',RAll wr g vs' Q'/\(∀s b,g (ag s)=I b->Q' (ag s)=if left (az s.1.1)=T then Q (ag s)else t (Q (ag s)))/\(∀i,Q' (aF i)=Q (aF i))/\Only w wr (RMem g vs)/\(∀k,RMem g vs' k->RMem g vs k\/w.1.size<=k)/\(∀k,RMem g vs k->k≠M)/\M<w.1.size
def LRr(w:af)(M r n:Nat)(D:be Unit)(g:AN->Option Nat)(vs:AN->ac)(Q:AN->List Pl)(t:List Pl->List Pl)(s:ByteArray)(q:Nat)(v:ac)(a:List Pl)(wr:af)(left:Lit->Bool)(cnt:Nat):Prop:=wr.ranges ab 9 AP M r n D left cnt/\g (ag s)=I q/\left (az s.1.1)=ar/\∃vs' Q',RAll wr g vs' Q'/\vs' (ag s)=v/\Q' (ag s)=a/\(∀x b,g (ag x)=I b->x≠s->Q' (ag x)=if left (az x.1.1)=T then Q (ag x)else t (Q (ag x)))/\(∀i,Q' (aF i)=Q (aF i))/\Only w wr (RMem g vs)/\(∀k,RMem g vs' k->RMem g vs k\/w.1.size<=k)/\(∀k,RMem g vs k->k≠M)/\M<w.1.size
section
variable{w w0 wr w2 w3:af}{M r n:Nat}{D:be Unit}{g:AN->Option Nat}{vs:AN->ac}{Q:AN->List Pl}{t:List Pl->List Pl}{left:Lit->Bool}{cnt cnt2:Nat}
theorem LQr.start(f:RAll w g vs Q)(a:∀s b,g (ag s)=I b->Maps.has D (az s.1.1)=T)(d:∀k,RMem g vs k->k≠M)(l:M<w.1.size)(m:w0.ranges ab 9 AP M w.1.size n D (Maps.has D) (Maps.size D))(i:w.grownBy w0 F):LQr w M w.1.size n D g vs Q t w0 (Maps.has D) (Maps.size D):=by have c:Only w w0 (λ_=>False):=Only.of_grown i (λk e=>by cases e);exact⟨m,vs,Q,f.kept c (λ_ _ h=>h),λs b o=>(if_pos (a s b o)).symm,λ_=>rfl,c.mono (λ_ _ h=>h.elim),λk j=>an j,d,l⟩
theorem LQr.next(h:LQr w M r n D g vs Q t wr left cnt)(a0:w.1.size<=r)(U:DQ D (λs=>g (ag s))){x:List UInt8}{c:Option Nat}{kl:Lit}{S:be Unit}{yp:List MemPlace}(p:keyOf ab 9 (encStr x)=I kl)(H:left kl=T)(hv:AP (Cd c)=I (S,yp))(l:∀zd,D.atKey kl zd=S)(N:w2.ranges ab 9 AP M r n D (λz=>left z&&!z.sameKey kl) cnt2)(hg:wr.grownBy w2 (I r)):∃q v,c=I q/\RQ w2 q v (Q (ag ⟨x.toArray⟩))/\x.length<=maxLen/\LRr w M r n D g vs Q t ⟨x.toArray⟩ q v (Q (ag ⟨x.toArray⟩)) w2 (λz=>left z&&!z.sameKey kl) cnt2:=by
 obtain⟨x',ex,rfl,R⟩:=Maps.keyOf_str underlying9 p;obtain rfl:=encStr_inj ex;obtain⟨L,d,A,V,W,hI,hO,hM,a,hl⟩:=h;have hx:(⟨x.toArray⟩:ByteArray).1.1=x:=oS;have u:g (ag ⟨x.toArray⟩)=c:=by have B:=U.1 ⟨x.toArray⟩;rw[hx,l]at B;have X:DW c=S:=congrArg Prod.fst (aG ((Dm c).symm.trans hv));rw[<-X]at B;exact(EV B).symm
 have m:Maps.has D (az x)=T:=Maps.has_true_of_atKey l;obtain⟨q,rfl⟩:∃q,c=I q:=by
  cases c with
  |none=>exact absurd u (U.2 ⟨x.toArray⟩ (by rw[hx];exact m))
  |some q=>exact⟨q,rfl⟩
 obtain⟨ia,ib,ic,id,o⟩:=IJ L;have f:Only wr w2 (λk=>k=r):=Only.of_grown hg (λk e=>(aG e).symm);have P:∀k,RMem g d k->¬k=r:=λk hk e=>by subst e;obtain⟨cs,t,hc,-⟩:=V.cells hk;rw[hc]at o;cases o
 have i:=V.kept f P;have j:A (ag ⟨x.toArray⟩)=Q (ag ⟨x.toArray⟩):=by rw[W _ _ u,hx,if_pos H]
 refine⟨q,d (ag ⟨x.toArray⟩),rfl,by rw[<-j];exact i.q _ _ u,R,N,u,?_,d,A,i,rfl,j,?_,hI,?_,hM,a,hl⟩
 ·show(left (az (⟨x.toArray⟩:ByteArray).1.1)&&!(bg (az (⟨x.toArray⟩:ByteArray).1.1) (az x)))=ar;rw[hx,BT];simp
 ·intro y b hy a;show A (ag y)=if(left (az y.1.1)&&!(bg (az y.1.1) (az x)))=T then Q (ag y)else t (Q (ag y));rw[W y b hy,BT];have:(y.1.1==x)=ar:=by rw[beq_eq_false_iff_ne];intro e;exact a (ByteArray.ext (aZ.1 (by rw[e])))
  rw[this];simp
 ·exact hO.trans (f.mono (λk _ e=>ad O))
theorem LRr.turn{s:ByteArray}{q:Nat}{v v3:ac}{a0 T':List Pl}(h:LRr w M r n D g vs Q t s q v a0 w2 left cnt)(x:Turned w2 w3 q v)(B:RQ w3 q v3 T')(N:From w2 v v3):LRr w M r n D g vs Q t s q v3 T' w3 left cnt:=by
 obtain⟨d,c,hl,a,S,P,rfl,rfl,X,W,A,u,m,l⟩:=h;obtain⟨ia,ib,ic,id,j⟩:=IJ d;have o:∀k,RMem g a k->k≠r:=λk f e=>by subst e;obtain⟨cs,t,hc,-⟩:=P.cells f;rw[hc]at j;cases j
 have L:RMem g a q:=⟨ag s,q,c,an rfl⟩;have z:M<w2.1.size:=ay l A.4;have p:∀k,RMem g a k->M≠k:=λk f e=>by
  rcases u k f with y|y
  ·exact m k y e.symm
  ·omega
 have U:=x.5 M z (p q L) (λe=>p M ⟨ag s,q,c,ad e.symm⟩ rfl);have V:=x.5 r d.lt (λe=>o q L e.symm) (λe=>o r ⟨ag s,q,c,ad e.symm⟩ rfl);refine⟨Gp d U V,c,hl,As a (ag s) v3,As S (ag s) T',P.step c x B N,AE _ _ _,AE _ _ _,λy b hy R=>?_,λi=>?_,?_,?_,m,l⟩
 ·rw[Ak _ _ (by simpa using R)];exact X y b hy R
 ·rw[Ak _ _ oS];exact W i
 ·refine A.trans ((Only.of_turned x).mono λk f H=>?_);rcases H with rfl|H
  ·exact u _ L
  ·exact u k ⟨ag s,q,c,ad H⟩
 ·intro k f;rcases RMem.from_ c N f with y|y
  ·exact u k y
  ·exact ad (al A.4 y)
theorem LRr.done{s:ByteArray}{q:Nat}{v:ac}(h:LRr w M r n D g vs Q t s q v (t (Q (ag s))) w2 left cnt):LQr w M r n D g vs Q t w2 left cnt:=by
 obtain⟨d,z,u,f,i,o,y,j,p,k,m,l,c,a⟩:=h;refine⟨d,f,i,o,λx b hx=>?_,k,m,l,c,a⟩;by_cases e:x=s
 ·subst e;rw[u,j];simp
 ·exact p x b hx e
theorem LRr.q{s:ByteArray}{q:Nat}{v:ac}{p:List Pl}(h:LRr w M r n D g vs Q t s q v p w2 left cnt):RQ w2 q v p:=by obtain⟨e,b,o,f,i,a,rfl,rfl,m,j,l,k,d,c⟩:=h;exact a.q _ q b
theorem LQr.fin(h:LQr w M r n D g vs Q t wr left cnt)(m:∀kl,left kl=ar):∃a c,RAll wr g a c/\(∀s b,g (ag s)=I b->c (ag s)=t (Q (ag s)))/\(∀i,c (aF i)=Q (aF i))/\Only w wr (RMem g vs)/\∀k,RMem g a k->RMem g vs k\/w.1.size<=k:=by obtain⟨-,a,c,j,l,d,f,e,-⟩:=h;exact⟨a,c,j,λs b o=>by rw[l s b o,m];simp,d,f,e⟩
end
def Yp(w:af)(M n:Nat)(D:be Unit)(g:AN->Option Nat)(vs:AN->ac)(Q:AN->List Pl)(t:List Pl->List Pl)(wr:af):Prop:=∃left cnt,LQr w M w.1.size n D g vs Q t wr left cnt
def WR(t:List Pl->List Pl)(Q:AN->List Pl):AN->List Pl
 |.inl s=>t (Q (.inl s))
 |.inr i=>Q (.inr i)
theorem RAll.cong{w:af}{g:AN->Option Nat}{vs:AN->ac}{Q a:AN->List Pl}(h:RAll w g vs Q)(e:∀l b,g l=I b->Q l=a l):RAll w g vs a:=⟨λs b c=>by rw[<-e s b c];exact h.q s b c,h.2,h.3⟩
theorem Qv{w wr w0:af}{o:Nat->Prop}{R M n N:Nat}{p:Array ac}{D:be Unit}{g:AN->Option Nat}{vs:AN->ac}{Q:AN->List Pl}{t:List Pl->List Pl}(h:RS w R M n p g vs Q)(q:Ev w0 w o (EO g vs R M))(v:n<=N)(x:t []=[])(f:∀A,Fit A->Fit (t A))(u:∃c d,RAll wr g c d/\(∀s b,g (ag s)=I b->d (ag s)=t (Q (ag s)))/\(∀i,d (aF i)=Q (aF i))/\Only w wr (RMem g vs)/\∀k,RMem g c k->RMem g vs k\/w.1.size<=k):Rs w0 o R M p g (WR t Q) N wr:=by
 obtain⟨c,d,y,z,B,j,H⟩:=u;refine⟨n,c,⟨y.cong (λl b e=>?_),h.2.same (j.5 M h.2.lt (λa=>(h.ne a).2 rfl)),(j.5 R (h.lt (ad (an rfl))) (λa=>(h.ne a).1 rfl)).trans h.3,h.4,h.m,h.6,λl=>?_,λl e=>?_⟩,q.trans ⟨j.mono (λk _ a=>an a),?_⟩,v⟩
 ·cases l with
  |inl s=>exact z s b e
  |inr i=>exact B i
 ·cases l with
  |inl s=>exact f _ (h.7 _)
  |inr i=>exact h.7 _
 ·cases l with
  |inl s=>show t (Q (.inl s))=[];rw[h.8 _ e,x]
  |inr i=>exact h.8 _ e
 ·rintro k (a|a)
  ·exact(H k a).imp an id
  ·exact an (ad a)
def Gu(t:List Pl->List Pl)(Q:AN->List Pl):AN->List Pl:=λl=>t (Q l)
def Sj(t:List Pl->List Pl)(Q:AN->List Pl)(k:Nat):AN->List Pl
 |.inl s=>t (Q (.inl s))
 |.inr i=>if i<k then t (Q (.inr i))else Q (.inr i)
theorem UX(t:List Pl->List Pl)(Q:AN->List Pl):Sj t Q 0=WR t Q:=by funext l;cases l<;>rfl
theorem UW(t:List Pl->List Pl)(Q:AN->List Pl)(k:Nat):Sj t Q (k+1)=As (Sj t Q k) (aF k) (t (Q (aF k))):=by
 funext l;unfold As;cases l with
 |inl s=>rfl
 |inr i=>
  by_cases e:i=k
  ·subst e;simp[Sj]
  ·have:¬((aF i:AN)=aF k):=by simpa using e
   simp only[Sj];rw[if_neg this];by_cases h:i<k
   ·rw[if_pos h,if_pos O]
   ·rw[if_neg h,if_neg O]
theorem Mz(u:Nat):Az u T []=[]:=by unfold Az;split<;>rfl
theorem Xt(R:Nat)(w:af)(v0 a v2 v3:ac)(b:w.cell? ⟨R,3,F⟩=I v0)(c:w.cell? ⟨R,3+1,F⟩=I a)(d:w.cell? ⟨R,3+2,F⟩=I v2)(e:w.cell? ⟨R,3+3,F⟩=I v3):(loadVar 61 ⟨R,3,F⟩).run ab w=.ok (bd #[v0,a,v2,v3]) w:=by simp[go_sem,b,c,d,e]
theorem VT(v0 a v2 v3:ac)(W:af):(aR 61 (bd #[v0,a,v2,v3]) (Y E 0)).run ab W=.ok v0 W/\(aR 61 (bd #[v0,a,v2,v3]) (Y E 1)).run ab W=.ok a W/\(aR 61 (bd #[v0,a,v2,v3]) (Y E 2)).run ab W=.ok v2 W/\(aR 61 (bd #[v0,a,v2,v3]) (Y E 3)).run ab W=.ok v3 W:=by refine⟨?_,?_,?_,?_⟩<;>kernel_rfl
theorem Fd{w0:af}{P0:Nat->Prop}{R M N:Nat}{U:Array ac}{g:AN->Option Nat}{Q:AN->List Pl}(u:Nat)(v0:ac)(w:af)(h:Rs w0 P0 R M U g Q N w)(hu:u<5)(hl:∀l,(Q l).length<=1000)(hi:∀i,4<=i->Q (aF i)=[])(hc:U[7+u]?=I v0):aU ab 54 #[G (I ⟨R,0,F⟩),Y E (u:Int)] w λe w'=>e=am (bi #[])/\Rs w0 P0 R M (U.setIfInBounds (7+u) (aa F 0 0)) g (Gu (Az u T) Q) N w':=by
 obtain⟨n,vs,d,h2,h3⟩:=h;have e8:(u:Int)<5:=O;have e7:(0:Int)<=(u:Int):=O;have c2:=(d.3.cell 2).trans d.m;obtain⟨D,hown,hD,b5⟩:=d.2.dq;have HS:=Aa (λw1 hr hg=>LQr.start (w:=w) (w0:=w1) (t:=Az u T) (n:=n) d.1 b5 (λk hk=>(d.ne hk).2) d.2.lt hr hg);have HD:=Aa hD;have HO:=Aa hown;have HL:=Aa hl;have p:Hid (∀wr,(∃vs' Q',RAll wr g vs' Q'/\(∀s b,g (ag s)=I b->Q' (ag s)=Az u T (Q (ag s)))/\(∀i,Q' (aF i)=Q (aF i))/\Only w wr (RMem g vs)/\∀k,RMem g vs' k->RMem g vs k\/w.1.size<=k)->Rs w0 P0 R M U g (Sj (Az u T) Q 0) N wr):=Aa (λwr hf=>by rw[UX];exact Qv (D:=D) d h2 h3 (Mz u) (λA hA=>Ei hA u T) hf);have e6:Hid (∀A:List Pl,A.length<=1000->(Az u T A).length<=1000):=Aa (λA hA=>by unfold Az;rw[if_neg O,bc];exact al (au _ _) hA);obtain⟨b0,e0,p0⟩:=d.6 0 O;obtain⟨b1,e1,p1⟩:=d.6 1 O;obtain⟨b2,e2,p2⟩:=d.6 2 O;obtain⟨b3,e3,p3⟩:=d.6 3 O;have P:Hid (∀W,Rs w0 P0 R M U g (Sj (Az u T) Q 0) N W->W.cell? ⟨R,3,F⟩=I (G (I ⟨b0,0,F⟩))/\W.cell? ⟨R,3+1,F⟩=I (G (I ⟨b1,0,F⟩))/\W.cell? ⟨R,3+2,F⟩=I (G (I ⟨b2,0,F⟩))/\W.cell? ⟨R,3+3,F⟩=I (G (I ⟨b3,0,F⟩))):=Aa (λW hs=>⟨(hs.cell 3).trans p0,(hs.cell (3+1)).trans p1,(hs.cell (3+2)).trans p2,(hs.cell (3+3)).trans p3⟩);have a:Hid (∀(k b:Nat) W,k<4->g (aF k)=I b->Rs w0 P0 R M U g (Sj (Az u T) Q k) N W->aU ab 127 #[G (I ⟨b,0,F⟩),Y E (u:Int),bh T] W λe w'=>e=am (bi #[])/\Rs w0 P0 R M U g (Sj (Az u T) Q (k+1)) N w'):=Aa (λk b W hk hg hs=>by
  have hq:Sj (Az u T) Q k (aF k)=Q (aF k):=by simp[Sj]
  refine(OI (aF k) b u W hs hg (by rw[hq];exact hl _)).mono ?_;rintro e w' ⟨rfl,hr⟩;rw[hq]at hr;rw[UW];exact⟨rfl,hr⟩);have a0:Hid (Sj (Az u T) Q 4=Gu (Az u T) Q):=Aa (by
  funext l;cases l with
  |inl s=>rfl
  |inr i=>
   simp only[Sj,Gu];split
   ·rfl
   ·rw[hi i O,Mz]);have HC:=Aa hc;clear d h2 h3 hown hD b5 hl hc p0 p1 p2 p3;go_enter func54,ntmps54;go_wp2_with(at_range;go_must(refine wpList_range_own _ rfl _ 59 rfl 9 60 Ec underlying59 AP M n D rfl HO.o ?_);intro w1 H b8 d9);go_frame;have a8:Yp w M n D g vs Q (Az u T) w1:=⟨_,_,HS.o w1 H b8⟩;clear H b8 d9 HS;go_loopw[13] (λ_ wr=>Yp w M n D g vs Q (Az u T) wr) (λ_ wr=>wr.rangeLeft M w.1.size);case atStart=>exact a8
 case round=>
  obtain⟨left,cnt,hrel⟩:=hrel;have HR:=Aa hrel;have X:=hrel.1;clear hrel a8;go_wp2_with(at_next;go_must(refine wpList_next_ranges _ rfl _ rfl 9 Ec AP encStr Cd DI CA M w.1.size n D left cnt rfl X ?_ ?_))
  ·intro _ c0;have V:=p.o wr (HR.o.fin c0);obtain⟨d0,d1,d2,d3⟩:=P.o wr V;have HF:=Aa V;have d8:=Xt R wr _ _ _ _ d0 d1 d2 d3;clear c0 p V HR X;have a1:=Aa (a.o 0 b0 wr O e0 HF.o);go_wp2;clear d0 d1 d2 d3 d8;have i0:=λW=>(VT (G (I ⟨b0,0,F⟩)) (G (I ⟨b1,0,F⟩)) (G (I ⟨b2,0,F⟩)) (G (I ⟨b3,0,F⟩)) W).1;have i1:=λW=>(VT (G (I ⟨b0,0,F⟩)) (G (I ⟨b1,0,F⟩)) (G (I ⟨b2,0,F⟩)) (G (I ⟨b3,0,F⟩)) W).2.1;have i2:=λW=>(VT (G (I ⟨b0,0,F⟩)) (G (I ⟨b1,0,F⟩)) (G (I ⟨b2,0,F⟩)) (G (I ⟨b3,0,F⟩)) W).2.2.1;have i3:=λW=>(VT (G (I ⟨b0,0,F⟩)) (G (I ⟨b1,0,F⟩)) (G (I ⟨b2,0,F⟩)) (G (I ⟨b3,0,F⟩)) W).2.2.2;refine wp_loop_rounds 5 ?_;rw[aL];go_wp2_with(go_at_call 127;go_must(refine a1.o.mono ?_);rintro e v1 ⟨rfl,c4⟩;refine aA ?_);refine Aa ?_;have c9:=Aa c4;clear c4 a1;have a2:=Aa (a.o 1 b1 v1 O e1 c9.o);go_wp2;rw[aL];go_wp2_with(go_at_call 127;go_must(refine a2.o.mono ?_);rintro e v2 ⟨rfl,j⟩;refine aA ?_);refine Aa ?_;have d4:=Aa j;clear j a2;have a3:=Aa (a.o 2 b2 v2 O e2 d4.o);go_wp2;rw[aL];go_wp2_with(go_at_call 127;go_must(refine a3.o.mono ?_);rintro e v3 ⟨rfl,c5⟩;refine aA ?_);refine Aa ?_;have d5:=Aa c5;clear c5 a3;have a4:=Aa (a.o 3 b3 v3 O e3 d5.o);go_wp2;rw[aL];go_wp2_with(go_at_call 127;go_must(refine a4.o.mono ?_);rintro e v4 ⟨rfl,c6⟩;refine aA ?_);refine Aa ?_;have S:=Aa c6;clear c6 a4;go_wp2;rw[aL];have c7:=(S.o.cell (7+u)).trans HC.o;have f7:=S.o.free (7+u);have HZ:=Aa (S.o.set (7+u) (aa F 0 0) O);go_wp2;go_end0;refine⟨rfl,?_⟩;rw[<-a0.o];exact HZ.o
  ·intro x c kl yd yp w2 cnt2 B c1 c8 y L c3 b9 j b6;obtain⟨q,v,rfl,hq,e4,f⟩:=HR.o.next (ax _) HD.o B c1 c8 y L b9;have d7:Hid (cnt2<wr.rangeLeft M w.1.size):=Lib.hid (by rw[HR.o.1.left_eq];exact c3);have b7:(Instr.entry (G (I ⟨w.1.size,0,F⟩))).run ab w2=.ok (bi #[Z ⟨x.toArray⟩,G (I ⟨q,0,F⟩)]) w2:=b6;obtain⟨s,Hs⟩:∃s:ByteArray,Hid (⟨x.toArray⟩=s):=⟨_,rfl⟩;rw[Hs.o]at f b7;obtain⟨e5,d6⟩:∃l,Hid ((λz:Lit=>left z&&!z.sameKey kl)=l):=⟨_,rfl⟩;rw[d6.o]at f;have a5:=Aa f;have HT:=Aa (KJ q v (Q (ag s)) u T w2 f.q (HL.o (ag s)));clear B c1 c8 y L c3 b9 j b6 hq e4 f HR X;go_wp2_with(go_at_call 127;go_must(refine HT.o.mono ?_);rintro e w3 ⟨rfl,⟨v3,a9,a7⟩,b4⟩;refine aA ?_);refine Aa ?_;have a6:=Aa (a5.o.turn b4 a9 a7).done;clear a9 a7 b4 HT a5;go_wp2;go_roundw;case rel=>exact⟨_,_,a6.o⟩
   case measure=>rw[a6.o.1.left_eq];exact d7.o
theorem EY(u:Int)(b:Bool)(A:List Pl):(Az u b A).length<=A.length:=by
 unfold Az;split
 ·exact ax _
 ·rw[bc];exact au _ _
theorem MK(H M D k:Nat)(cs:Array ac)(A:ByteArray->List Pl)(B:Nat->List Pl)(N:Nat)(P:Nat->Prop)(pu:Nat->List Mg)(tk:Nat->List Int)(up ut:Nat->ac)(u:Nat)(id cnt:Int)(d:Dk)(torn:Int)(down:Bool)(w:af)(h:Hs w P H M cs A B N w)(hU:Un w cs pu tk up ut)(n1:P D)(hw:NO cs D k torn down)(h0:cs[0]?=I (Y E id))(h5:cs[5]?=I (Y E cnt))(hD:DB w D d)(hk:Fy d k)(hL:Lay w)(hu:u<5)(d9:∀s,(A s).length+(pu u).length<=1000)(c3:∀j,(B j).length+(pu u).length<=1000)(ht:(tk u).length<=1000)(hr:∀m∈pu u,right m=T)(hi:∀z∈tk u,0<=z/\z<=1099511627776)(hN:N+(pu u).length<1000000):aU ab 28 #[G (I ⟨H,0,F⟩),Y E (u:Int)] w (Yn w P H M D k cs A B N pu tk up ut u id cnt d torn down):=by
 have hp:(pu u).length<=1000:=by have:=c3 0;omega
 have t1:=h.size;obtain⟨P1,m7,d6,n5,n2,r6,n8⟩:=h.freshTD;have d5:H<w.1.size:=d6 H n2;have r4:D<w.1.size:=hD.lt;have sub:∀k,P1 k->P k:=λk hk=>(m7.2 k hk).elim (λy=>y) (λy=>by have:=d6 k hk;omega);have i3:∀k,Cl up ut k->¬(P1 k\/k=D):=λk hk=>by
  obtain⟨c,t,hc,ht⟩:=hU.cells hk;rintro(hp|rfl)
  ·exact n5 k c t hc (by rcases ht with rfl|rfl<;>decide) (by rcases ht with rfl|rfl<;>decide) (by rcases ht with rfl|rfl<;>decide) hp
  ·have:=hD.1;unfold Blk at this;rw[hc]at this;injection this with this;injection this with _ this;rcases ht with rfl|rfl<;>cases this
 obtain⟨ap,kp,j1⟩:=Ah (hU.3 u hu);obtain⟨x,kt,b4⟩:=Ah (hU.4 u hu);have o7:=hU.3 u hu;have i9:=hU.4 u hu;have a4:=(h.cell (68+u*2)).trans ((hU.1 u hu).trans (by rw[j1]));have a6:=(h.cell (68+u*2+1)).trans ((hU.2 u hu).trans (by rw[b4]));have c0:=(h.cell 0).trans h0;have i1:Msgs w.1.size w ap (pu u):=CQ (j1▸o7);have i2:Nums w.1.size w x (tk u):=E8 (b4▸i9);have m9:∀b o,x=I ⟨b,o,F⟩->Cl up ut b:=λb o e=>⟨u,hu,ad (by
  rw[b4,e];rcases i9.2 with⟨hz,-⟩|⟨g,cap,cur,hz,-⟩
  ·rw[b4,e]at hz;cases hz
  ·rw[b4,e]at hz;cases hz;rfl)⟩;obtain⟨f,S⟩:∃f,Hid (pu u=f):=⟨_,rfl⟩;obtain⟨ids,r⟩:∃ids,Hid (tk u=ids):=⟨_,rfl⟩;obtain⟨np,a1⟩:∃n,Hid (f.length=n):=⟨_,rfl⟩;obtain⟨nt,b2⟩:∃n,Hid (ids.length=n):=⟨_,rfl⟩;have p1:∀m∈C9 id f,right m=T:=λm hm=>hr m (by rw[S.o];exact(C.1 hm).1);have p3:∀m∈DO id f,right m=T:=λm hm=>hr m (by rw[S.o];exact(C.1 hm).1);have o6:(Ia id ids f).ok:=Xc (λz hz=>hi z (by rw[r.o];exact hz)) (by rw[<-r.o];exact ht) (λm hm=>hr m (by rw[S.o];exact hm)) (by rw[<-S.o];exact hp);rw[S.o]at hp d9 c3 hN i1 a4;rw[r.o]at ht i2 a6;rw[a1.o]at hp d9 c3 hN a4;rw[b2.o]at ht a6;have p9:=Aa i1;have q7:=Aa i2;have h7:=Aa m9;have l2:=Aa i3;have r1:=Aa p1;have r2:=Aa p3;have q8:=Aa o6;have l5:=Aa d9;have l6:=Aa c3;have l3:Hid (∀k,Cl up ut k->k<w.1.size):=Aa (λk hk=>hU.lt hk);have b7:Hid (∀W,Only w W (λk=>P1 k\/k=D)->Un W cs pu tk up ut):=Aa (λW hO=>hU.kept hO i3);have k7:Hid (∀W,ao w.1.size w W->Hs W (λk=>P1 k\/k=D) H M cs A B N W/\DB W D d/\Lay W/\Ev w W P (λk=>P1 k\/k=D)):=Aa (λW hB=>⟨(n8 W hB).more (λk hk=>an hk),hD.below hB,hL.below hB,⟨Only.of_below hB,λk hk=>an (hk.elim (sub k) (λe=>e▸n1))⟩⟩);have j6:Hid (∀W,ao w.1.size w W->W.cell? ⟨H,0,F⟩=I (Y E id)/\W.cell? ⟨H,68+u*2,F⟩=I (aa ap np kp)/\W.cell? ⟨H,68+u*2+1,F⟩=I (aa x nt kt)):=Aa (λW hB=>⟨(hB.cell (p:=⟨H,0,F⟩) d5).trans c0,(hB.cell (p:=⟨H,68+u*2,F⟩) d5).trans a4,(hB.cell (p:=⟨H,68+u*2+1,F⟩) d5).trans a6⟩);have d0:Hid (∀k,(P1 k\/k=D)->k<w.1.size):=Aa (λk hk=>hk.elim (d6 k) (λe=>e▸r4));have c7:=Aa (EW ap x np nt kp kt w);have j9:Hid (∀W,aU ab 77 #[Y E (u:Int)] W λe w'=>e=am (bh T)/\W=w'):=Lib.hid (λW=>by have h1:=De (u:Int) W;rw[show(decide (0<=(u:Int))&&decide ((u:Int)<5))=T by simp;omega]at h1;exact h1.mono (λe w' h=>⟨h.1,h.2.symm⟩));have k4:=Aa hw;have p6:=Aa hk;have H5:=Aa h5;have t3:(u:Int)<5:=O;have t2:(0:Int)<=(u:Int):=O;obtain⟨j0,hj,o2,o3,o4⟩:=Aj Du;have HJ:=Aa hj;have k0:=Aa o2;have k1:=Aa o3;have k2:=Aa o4;clear h hU n1 hw h0 h5 hD hk hL hr hi m7 d6 n5 n2 r6 n8 sub i3 o7 i9 i1 i2 m9 p1 p3 o6 hj o2 o3 o4 j1 b4 d9 c3;go_enter func28,ntmps28;go_wp2_with(go_at_call 77;go_must(refine(j9.o _).mono ?_);rintro e w1 ⟨rfl,rfl⟩;refine aA ?_);refine Aa ?_;go_wp2_with(go_at_call 86;go_must(refine c7.o.mono ?_);rintro e w2 ⟨rfl,b3⟩;refine aA ?_);refine Aa ?_;have j3:=Aa b3;clear c7 j9 c0 a4 a6;by_cases hz:np=0/\nt=0
 ·obtain⟨rfl,rfl⟩:=hz;go_wp2;go_ret;obtain⟨g1,g2,g3,g4⟩:=k7.o w2 j3.o;refine an ⟨⟨?_,?_⟩,rfl,g1.anchor g4,b7.o w2 (Only.of_below j3.o),g2⟩
  ·rw[S.o];exact aO.1 a1.o
  ·rw[r.o];exact aO.1 b2.o
 have HZ:Hid (¬(pu u=[]/\tk u=[])):=Aa (λ⟨e1,e2⟩=>hz ⟨by rw[<-a1.o,<-S.o,e1];rfl,by rw[<-b2.o,<-r.o,e2];rfl⟩);have p5:((np:Int)==0&&(nt:Int)==0)=ar:=by rw[aQ,beq_eq_false_iff_ne,beq_eq_false_iff_ne];omega
 rw[p5];clear hz p5;obtain⟨c0,a4,a6⟩:=j6.o w2 b3;have r9:w.1.size<=w2.1.size:=b3.4;have t0:H<w2.1.size:=ay d5 r9;have m5:CmL w w2.1.size (aa x nt kt) (aa F 0 0) (aa F 0 0) (C9 id (f.take 0)) (DO id (f.take 0)) (w2.alloc (aH #[Y E 2,Z ⟨#[]⟩,Z ⟨#[]⟩,Y E 0,Y E 0,aa x nt kt,aa F 0 0,aa F 0 0,aa F 0 0] 120)):=⟨Blk.new w2 _ 120,aC _ _ _ _,aC _ _ _ _,λc hc=>by simp[aB]at hc,b3.alloc b3.4 _,b3.4⟩;have j5:=Aa m5;clear m5;go_wp2;go_loopw[37] (λi wr=>∃j:Nat,j<=np/\i=Y E j/\Hid (∃vq vw,CmL w w2.1.size (aa x nt kt) vq vw (C9 id (f.take j)) (DO id (f.take j)) wr)) (λi _=>np-(intOf i).toNat);case atStart=>exact⟨0,Nat.zero_le _,rfl,Aa ⟨_,_,j5.o⟩⟩
 case round=>
  clear j5;obtain⟨j,hj,rfl,hR⟩:=hrel;obtain⟨vq,vw,hC⟩:=hR.o;have L:=hC.5;by_cases s2:j<np
  ·obtain⟨m,i5⟩:∃m,f[j]?=I m:=⟨_,List.getElem?_eq_getElem (by rw[a1.o];exact s2)⟩;obtain⟨b,o,rfl,c2,m0,m1,m2,m3,m4⟩:=p9.o j m i5;have q0:=(L.cell (p:=⟨b,o+j*5,F⟩) c2).trans m0;have q1:=(L.cell (p:=⟨b,o+j*5+1,F⟩) c2).trans m1;have q2:=(L.cell (p:=⟨b,o+j*5+2,F⟩) c2).trans m2;have q3:=(L.cell (p:=⟨b,o+j*5+3,F⟩) c2).trans m3;have q4:=(L.cell (p:=⟨b,o+j*5+4,F⟩) c2).trans m4;have l1:=Aa (Df f j m i5);obtain⟨aq,kq,rfl⟩:=Ah hC.2;obtain⟨aw,kw,rfl⟩:=Ah hC.3;obtain⟨lq,v⟩:∃n,Hid ((C9 id (f.take j)).length=n):=⟨_,rfl⟩;obtain⟨lw,R⟩:∃n,Hid ((DO id (f.take j)).length=n):=⟨_,rfl⟩;have s1:lq<=1000:=by
    have:=Iz id (f.take j);have:=v.o;have e3:(f.take j).length<=f.length:=by rw[bb];omega
    have:=a1.o;omega
   have s3:lw<=1000:=by
    have:=K9 id (f.take j);have:=R.o;have e3:(f.take j).length<=f.length:=by rw[bb];omega
    have:=a1.o;omega
   rw[v.o,R.o]at hC;obtain⟨W3,d7⟩:∃W3,wr.alloc (aH #[Y E m.1,Y E m.2,Z m.3,Z m.4,Y E m.5] 84)=W3:=⟨_,rfl⟩;have l9:ao wr.1.size wr W3:=by rw[<-d7];exact(aD _ _).alloc (ax _) _
   have i0:MB W3 wr.1.size m:=by rw[<-d7];exact heap_alloc_new wr _
   have h8:=hC.on l9;have c9:=Aa i0;have c6:=Aa h8;have p0:=i0.cells.2.2.2.2;have c0:=(j6.o W3 h8.5).1;clear m0 m1 m2 m3 m4 i5 hC L l9 i0 h8 hR a4 a6;by_cases he:m.5=id
   ·have s0:(m.5==id)=T:=by simpa using he
    have He:=Aa he;clear he;go_wp2_with fail;go_quiet(fail);have a3:=c6.o.on (A4 W3 nq);have a7:=c9.o.below (A4 W3 nq);generalize W3.drewN nq=V at a3 a7⊢;obtain⟨⟨e0,e1,e2,e3,e4,e5,e6,e7,e8⟩,g0,g1,g2,g3,g4,g5,g6,g7,g8⟩:=a3.1.nine;obtain⟨y0,y1,y2,y3,y4⟩:=a7.cells;have b9:ao V.1.size V (V.alloc (aH #[Y E m.1,Y E m.2,Z m.3,Z m.4,Y E m.5] 84)):=(aD _ _).alloc (ax _) _;have a2:=a3.on b9;have a0:=Aa a2.2;have Q:=Aa a2;have i4:w2.1.size+1<=(V.alloc (aH #[Y E m.1,Y E m.2,Z m.3,Z m.4,Y E m.5] 84)).1.size:=a2.lt;have b8:=Aa (Cq (w:=V) m);rw[v.o]at a0;clear a3 a7 b9 a2 c6 c9 q0 q1 q2 q3 q4 p0 c0 d7;go_wp2_with(at_builtin;go_must(refine aT _ rfl _ _ 22 rfl (w2.1.size+1) 84 j0 _ 5 56 aY HJ.o k0.o k1.o k2.o rfl oD (aa aq lq kq) lq _ rfl a0.o ⟨V.1.size,0,F⟩ 1 1 (mc m) rfl rfl b8.o (Cu _) (by unfold maxLen;omega) O i4 ?_));intro v5 w5 l a9 _ c1;obtain⟨a5,k5,rfl⟩:=Ah l;have a8:w5.1[w2.1.size]?=(V.alloc (aH #[Y E m.1,Y E m.2,Z m.3,Z m.4,Y E m.5] 84)).1[w2.1.size]?:=a9.5 _ Q.o.lt (λe=>by have:=(CP a0.o e.symm).1;omega);have x6:=(aS (a:=⟨w2.1.size,6,F⟩) a8).trans Q.o.1.nine.1.2.2.2.2.2.2.1;have s8:=(aP (a:=⟨w2.1.size,6,F⟩) a8).trans Q.o.1.nine.2.2.2.2.2.2.2.1;have g9:=Aa (Q.o.queued (by rw[v.o];exact l) a9 (c1.imp (λy=>y) (λy=>y.trans oS)));clear l a9 c1 a8 a0 Q b8;go_wp2;go_roundw;case rel=>exact⟨j+1,O,by go_num,Aa ⟨_,_,by rw[l1.o,Vj _ _ _ He.o,Vl _ _ _ He.o];exact g9.o⟩⟩
    case measure=>simp[intOf];omega
   ·have s0:(m.5==id)=ar:=by simpa using he
    have He:=Aa he;clear he;go_wp2_with fail;go_quiet(fail);have a3:=c6.o.on (A4 W3 nq);have a7:=c9.o.below (A4 W3 nq);generalize W3.drewN nq=V at a3 a7⊢;obtain⟨⟨e0,e1,e2,e3,e4,e5,e6,e7,e8⟩,g0,g1,g2,g3,g4,g5,g6,g7,g8⟩:=a3.1.nine;obtain⟨y0,y1,y2,y3,y4⟩:=a7.cells;have b9:ao V.1.size V (V.alloc (aH #[Y E m.1,Y E m.2,Z m.3,Z m.4,Y E m.5] 84)):=(aD _ _).alloc (ax _) _;have a2:=a3.on b9;have a0:=Aa a2.3;have Q:=Aa a2;have i4:w2.1.size+1<=(V.alloc (aH #[Y E m.1,Y E m.2,Z m.3,Z m.4,Y E m.5] 84)).1.size:=a2.lt;have b8:=Aa (Cq (w:=V) m);rw[R.o]at a0;clear a3 a7 b9 a2 c6 c9 q0 q1 q2 q3 q4 p0 c0 d7;go_wp2_with(at_builtin;go_must(refine aT _ rfl _ _ 22 rfl (w2.1.size+1) 84 j0 _ 5 56 aY HJ.o k0.o k1.o k2.o rfl oD (aa aw lw kw) lw _ rfl a0.o ⟨V.1.size,0,F⟩ 1 1 (mc m) rfl rfl b8.o (Cu _) (by unfold maxLen;omega) O i4 ?_));intro v5 w5 l a9 _ c1;obtain⟨a5,k5,rfl⟩:=Ah l;have a8:w5.1[w2.1.size]?=(V.alloc (aH #[Y E m.1,Y E m.2,Z m.3,Z m.4,Y E m.5] 84)).1[w2.1.size]?:=a9.5 _ Q.o.lt (λe=>by have:=(CP a0.o e.symm).1;omega);have x6:=(aS (a:=⟨w2.1.size,8,F⟩) a8).trans Q.o.1.nine.1.2.2.2.2.2.2.2.2;have s8:=(aP (a:=⟨w2.1.size,8,F⟩) a8).trans Q.o.1.nine.2.2.2.2.2.2.2.2.2;have g9:=Aa (Q.o.waits (by rw[R.o];exact l) a9 (c1.imp (λy=>y) (λy=>y.trans oS)));clear l a9 c1 a8 a0 Q b8;go_wp2;go_roundw;case rel=>exact⟨j+1,O,by go_num,Aa ⟨_,_,by rw[l1.o,Vi _ _ _ He.o,Vk _ _ _ He.o];exact g9.o⟩⟩
    case measure=>simp[intOf];omega
  ·obtain rfl:j=np:=O;have HT:Hid (f.take j=f):=Aa (List.take_of_length_le (by rw[a1.o];exact ax _));rw[HT.o]at hC;obtain⟨aq,kq,rfl⟩:=Ah hC.2;obtain⟨aw,kw,rfl⟩:=Ah hC.3;obtain⟨lq,v⟩:∃n,Hid ((C9 id f).length=n):=⟨_,rfl⟩;obtain⟨lw,R⟩:∃n,Hid ((DO id f).length=n):=⟨_,rfl⟩;have s1:lq<=j:=by have:=Iz id f;have:=v.o;have:=a1.o;omega
   have s3:lw<=j:=by have:=K9 id f;have:=R.o;have:=a1.o;omega
   have r8:=hC.lt;have f8:=hC.1;have i6:Msgs wr.1.size wr aq (C9 id f):=CQ hC.2;have i7:Msgs wr.1.size wr aw (DO id f):=CQ hC.3;have i8:Nums wr.1.size wr x ids:=q7.o.on L L.4;obtain⟨g1,g2,g3,g4⟩:=k7.o wr L;have r7:¬(P1 w2.1.size\/w2.1.size=D):=λhp=>by have:=d0.o _ hp;omega
   have o9:∀b o,aq=I ⟨b,o,F⟩->w2.1.size+1<=b/\b<wr.1.size:=λb o e=>by
    subst e;rcases hC.2.2 with⟨hz,-⟩|⟨g,cap,cur,hz,hb,hg,-⟩
    ·cases hz
    ·cases hz;exact⟨hb,(ak.1 hg).1⟩
   have p4:∀b o,aw=I ⟨b,o,F⟩->w2.1.size+1<=b/\b<wr.1.size:=λb o e=>by
    subst e;rcases hC.3.2 with⟨hz,-⟩|⟨g,cap,cur,hz,hb,hg,-⟩
    ·cases hz
    ·cases hz;exact⟨hb,(ak.1 hg).1⟩
   have l4:=F0 d (Ia id ids f) q8.o x aq F aw kt kq 0 kw torn down wr g1 k4.o g2 p6.o (an (ad rfl)) g3 ⟨i8,i6,λj m hj=>by simp[Ia]at hj,i7⟩;have HW:Hid (aU ab 87 #[G (I ⟨H,0,F⟩),bd #[Y E 2,Z ⟨#[]⟩,Z ⟨#[]⟩,Y E 0,Y E 0,aa x nt kt,aa aq lq kq,aa F 0 0,aa aw lw kw]] wr λe w'=>Hid (K2 wr (λk=>P1 k\/k=D) H M D k cs A B N d (Ia id ids f) torn down e w')):=Aa (by rw[<-b2.o,<-v.o,<-R.o];exact l4);have b5:=Aa (λW (hO:Only wr W (λk=>P1 k\/k=D))=>(K8 hO r8 r7 f8).nine.1);rw[v.o,R.o]at b5;have c8:=Aa g4;have p8:=Aa i6;have q5:=Aa i7;have q6:=Aa i8;have d1:=Aa o9;have d3:=Aa p4;have j4:=Aa L;have d2:Hid (∀W,Only wr W (λk=>P1 k\/k=D)->Un W cs pu tk up ut):=Aa (λW hO=>b7.o W ((Only.of_below L).trans (hO.mono (λk _ hk=>an hk))));obtain⟨e0,e1,e2,e3,e4,e5,e6,e7,e8⟩:=b5.o wr (Only.refl _ _);clear l4 g1 g2 g3 g4 i6 i7 i8 o9 p4 hC f8 hR L c0 a4 a6;go_wp2_with(go_at_call 87;go_must(refine HW.o.mono ?_);intro e w3 hr;rcases hr.o with⟨hd,rfl,hs,X⟩|⟨hd,b0,rfl,hs,X⟩|⟨hd,b0,b,d',d8,X,⟨rfl,rfl,hs⟩|⟨rfl,rfl,hs⟩⟩<;>refine aA ?_)
   ·refine Aa ?_;have HF:=Aa (ae hd (ae hs X));clear hd hs X hr e0 e1 e2 e3 e4 e5 e6 e7 e8;go_wp2;go_ret;exact ad (an ⟨HZ.o,HF.o.1,rfl,HF.o.2.1.anchor c8.o,d2.o w3 HF.o.2.1.ev,HF.o.2.2⟩)
   ·refine Aa ?_;have HF:=Aa (ae hd (ae b0 (ae hs X)));clear hd hs X hr b0 e0 e1 e2 e3 e4 e5 e6 e7 e8;go_wp2;go_ret;exact ad (ad (an ⟨HZ.o,HF.o.1,HF.o.2.1,rfl,HF.o.2.2.1.anchor c8.o,d2.o w3 HF.o.2.2.1.ev,HF.o.2.2.2⟩))
   ·refine Aa ?_;have HF:=Aa (ae hd (ae b0 (ae d8 (ae X hs))));clear hd hs X hr b0 d8 e0 e1 e2 e3 e4 e5 e6 e7 e8;go_wp2;go_ret;obtain⟨f1,f2,f3,f4,f5⟩:=HF.o;refine ad (ad (ad ⟨HZ.o,f1,f2,ar,d',by rw[r.o,S.o];exact f3,f4,an ⟨rfl,rfl,f5.anchor c8.o,(d2.o w3 f5.ev).same (λk h1 h2=>?_)⟩⟩));rw[J,if_neg O]
   ·refine Aa ?_;obtain⟨P3,m8,r5,n6,n3,f6,n9⟩:=hs.freshTD;have h6:=Aa m8;have k6:=Aa (f6 D d' X);have l0:=Aa (FH u w3 (n9 w3 (aD _ _)) hu (λs=>by have:=l5.o s;omega) (λq=>by have:=l6.o q;omega));have HF:=Aa (ae hd (ae b0 (ae d8 (ae X hs))));clear hd hs X hr b0 d8 e0 e1 e2 e3 e4 e5 e6 e7 e8 m8 r5 n6 n3 f6 n9;go_wp2_with(go_at_call 88;go_must(refine l0.o.mono ?_);rintro e w4 ⟨rfl,r3⟩;refine aA ?_);refine Aa ?_;obtain⟨l7,c5,e9,f0,qk⟩:=r3;have U:Only wr w4 (λk=>P1 k\/k=D):=HF.o.2.2.2.2.ev.trans (c5.ev.mono (λk _ hk=>h6.o.2 k hk));obtain⟨e0,e1,e2,e3,e4,e5,e6,e7,e8⟩:=b5.o w4 U;obtain⟨P4,h9,n0,n7,n4,f7,o0⟩:=c5.freshTD;have b1:∀k,P4 k->(P1 k\/k=D)\/wr.1.size<=k:=(h6.o.trans h9).2;have c4:∀b,w.1.size<=b->b<wr.1.size->¬P4 b:=λb h1 h2 hp=>by
     rcases b1 b hp with h|h
     ·have:=d0.o b h;omega
     ·omega
    have hold:∀k,Cl up ut k->¬P4 k:=λk hk hp=>by
     rcases b1 k hp with h|h
     ·exact l2.o k hk h
     ·have:=l3.o k hk;have:=j4.o.4;omega
    have o5:wr.1.size<=w4.1.size:=U.4;have l8:l7[5]?=I (Y E cnt):=(qk 5 (an O) O O).trans (by rw[J,if_neg O];exact H5.o);have o8:Msgs w4.1.size w4 aq (C9 id f):=p8.o.only U (λb o e hp=>by have:=d1.o b o e;have:=d0.o b hp;omega);have p2:Msgs w4.1.size w4 aw (DO id f):=q5.o.only U (λb o e hp=>by have:=d3.o b o e;have:=d0.o b hp;omega);have o1:Nums w4.1.size w4 x ids:=λq z hz=>by obtain⟨b,o,e,hb,hc⟩:=q6.o q z hz;have s5:=h7.o b o e;exact⟨b,o,e,ay hb o5,(U.cell hb (l2.o b s5)).trans hc⟩
    have b6:=Pn H M l7 (λs=>Az u T (A s)) (λq=>Az u T (B q)) N P4 ⟨#[]⟩ ⟨#[]⟩ 0 0 cnt x aq F aw kt kq 0 kw ids (C9 id f) (DO id f) w4 (o0 w4 (aD _ _)) l8 n0
     (λs=>by have:=l5.o s;have:=EY u T (A s);have:=v.o;omega) (λq=>by have:=l6.o q;have:=EY u T (B q);have:=R.o;omega) (by have:=v.o;omega) o1 o8 p2 (by have:=b2.o;omega) (by have:=v.o;omega) (by have:=R.o;omega) r1.o r2.o
     (λb o e=>⟨ay (l3.o b (h7.o b o e)) (by have:=j4.o.4;omega),hold b (h7.o b o e)⟩)
     (λb o e=>⟨by have:=d1.o b o e;omega,c4 b (by have:=d1.o b o e;omega) (d1.o b o e).2⟩)
     (λb o e=>⟨by have:=d3.o b o e;omega,c4 b (by have:=d3.o b o e;omega) (d3.o b o e).2⟩);rw[b2.o,v.o,R.o]at b6;have j7:=Aa b6;have p7:=Aa h9;have s9:=Aa hold;have r0:=Aa (ae e9 (ae f0 qk));have q9:=Aa f7;have j8:=Aa c5.ev;have k8:=Aa b1;have k3:=Aa U;have k9:=Aa c5.size;clear b6 U c5 h9 n0 n7 n4 f7 o0 b1 c4 hold l8 o8 p2 o1 e9 f0 qk l0;go_wp2_with(go_at_call 39;go_must(refine j7.o.mono ?_);rintro e w5 ⟨rfl,m6⟩;refine aA ?_);refine Aa ?_;have c7:=Aa m6;clear m6 j7 e0 e1 e2 e3 e4 e5 e6 e7 e8;go_wp2;go_ret;obtain⟨d4,g1,g2,g3⟩:=c7.o;obtain⟨f1,f2,f3,f4,f5⟩:=HF.o;obtain⟨e9,f0,qk⟩:=r0.o;have f9:=f4.only j8.o k6.o;have s4:=k9.o;have s6:d4[68+u*2]?=I (aa F 0 0):=(g3 _ (an O)).trans (by rw[J,if_neg O];exact e9);have s7:d4[68+u*2+1]?=I (aa F 0 0):=(g3 _ (an O)).trans (by rw[J,if_neg O];exact f0);have j2:∀q,(q<78\/¬(q-78)%4=0)->q≠5->q≠68+u*2->q≠68+u*2+1->d4[q]?=(cs.setIfInBounds 2 (Y E ((k:Int)+1)))[q]?:=λq h1 h2 h3 h4=>(g3 q h1).trans (by rw[J,if_neg O];exact qk q h1 h3 h4);refine ad (ad (ad ⟨HZ.o,f1,f2,T,d',by rw[r.o,S.o];exact f3,f9.only g1.ev (q9.o D d' f9),ad ⟨rfl,rfl,d4,?_,?_,?_,?_,λq h1 h2 h3 h4 h5=>?_⟩⟩))
    ·rw[r.o,S.o];exact((g1.anchor p7.o).anchor h6.o).anchor c8.o
    ·refine(d2.o w5 (k3.o.trans (g1.ev.mono (λq _ hq=>k8.o q hq)))).none s6 s7 (λq h1 h2 h3 h4=>?_);rw[j2 q (an h2) O h3 h4,J,if_neg O]
    ·rw[j2 2 (an O) O O O,J,if_pos rfl,if_pos O]
    ·rw[g3 5 (an O),J,if_pos rfl,if_pos O,S.o]
    ·rw[j2 q h1 h3 h4 h5,J,if_neg O]
theorem Fc{x:Nm}(h:AM x=T):(⟨0,x,0,[],[],[],[]⟩:Ch).ok:=by
 have a:=CC h;simp only[AM,aN,decide_eq_true_eq,Bool.or_eq_true]at h;obtain⟨⟨⟨c,d⟩,e⟩,b⟩:=h;refine⟨⟨oS,oS⟩,λz a=>EA _ _ c z a,λz a=>?_,⟨al a.1 O,al a.2 O⟩,⟨d,by show x.3<=3;omega⟩,⟨oS,oS⟩,oS,⟨oS,oS,oS,oS⟩,⟨oS,oS,oS⟩⟩;rcases b with b|b
 ·simp only[Nm.own,aN,List.isEmpty_iff]at b;rw[aI]at b;rw[b.1]at a;simp at a
 ·exact EA _ _ b z a
theorem OS{ns:List Nm}{x:Nm}(h:Bo ns x=0):AM x=T:=by
 unfold Bo at h;split at h
 ·assumption
 ·omega
def Ys(w:af)(P:Nat->Prop)(H M D k:Nat)(a:Array ac)(A:ByteArray->List Pl)(B:Nat->List Pl)(N:Nat)(ns:List Nm)(x:Nm)(d:Dk)(torn:Int)(down:Bool)(e:Ending)(w':af):Prop:=(Bo ns x≠0/\e=am (aV 23 (Y E (Bo ns x)))/\Hs w P H M a A B N w'/\DB w' D d)\/(Bo ns x=0/\x.1=Al/\e=am (aV 23 (Y E 5))/\Hs w P H M a A B N w'/\DB w' D d)\/(Bo ns x=0/\x.1≠Al/\WdN w P H M D k a A B N d ⟨0,x,0,[],[],[],[]⟩ torn down (CX ns x) e w')
theorem DoneNames.anchor{w W w':af}{P P1:Nat->Prop}{H M:Nat}{a:Array ac}{A:ByteArray->List Pl}{B:Nat->List Pl}{N:Nat}{ns:List Nm}(h:DoneNames W P1 H M a A B N ns w')(e:Ev w W P P1):DoneNames w P H M a A B N ns w':=by obtain⟨cs',b,c,d⟩:=h;exact⟨cs',b.anchor e,c,d⟩
theorem WdN.anchor{w W w':af}{P P1:Nat->Prop}{H M D k:Nat}{o:Array ac}{A:ByteArray->List Pl}{B:Nat->List Pl}{N:Nat}{d:Dk}{c:Ch}{torn:Int}{down:Bool}{ns:List Nm}{e:Ending}(h:WdN W P1 H M D k o A B N d c torn down ns e w')(l:Ev w W P P1):WdN w P H M D k o A B N d c torn down ns e w':=by
 rcases h with⟨a,f,g,i⟩|⟨a,f,g,i,j⟩|⟨a,f,b,d',g,i,⟨j,m,n⟩|⟨j,m,n⟩⟩
 ·exact an ⟨a,f,g.anchor l,i⟩
 ·exact ad (an ⟨a,f,g,i.anchor l,j⟩)
 ·exact ad (ad ⟨a,f,b,d',g,i,an ⟨j,m,n.anchor l⟩⟩)
 ·exact ad (ad ⟨a,f,b,d',g,i,ad ⟨j,m,n.anchor l⟩⟩)
theorem QV(H M D k:Nat)(S:Array ac)(A:ByteArray->List Pl)(B:Nat->List Pl)(N:Nat)(P:Nat->Prop)(x:Nm)(ns:List Nm)(d:Dk)(torn:Int)(down:Bool)(w:af)(h:Hs w P H M S A B N w)(a6:P D)(hn:NmC S ns)(ho:An ns)(hr:∀x∈ns,AM x=T)(hx:x.wf)(hw:NO S D k torn down)(hD:DB w D d)(v:Fy d k)(hL:Lay w):aU ab 12 #[G (I ⟨H,0,F⟩),bd #[Z x.1,Z x.2,Y E x.3]] w (Ys w P H M D k S A B N ns x d torn down):=by
 obtain⟨P1,a4,V,b5,a7,b6,a8⟩:=h.freshTD;have c3:H<w.1.size:=V H a7;have sub:∀k,P1 k->P k:=λk v=>(a4.2 k v).elim (λy=>y) (λy=>by have:=V k v;omega);have X:∀W,ao w.1.size w W->Hs W (λk=>P1 k\/k=D) H M S A B N W/\DB W D d/\Lay W/\Ev w W P (λk=>P1 k\/k=D):=λW a=>⟨(a8 W a).more (λk v=>an v),hD.below a,hL.below a,⟨Only.of_below a,λk v=>an (v.elim (sub k) (λe=>e▸a6))⟩⟩;have b8:=hn;obtain⟨pre,post,rest,hc,b1,b0⟩:=b8;have a5:∀W,ao w.1.size w W->NB W H 118 6 pre post ns rest:=λW a=>⟨by rw[<-hc];exact h.here.after a,b1,b0⟩;have a1:=Aa (λW (a:ao w.1.size w W)=>FC H 118 pre post ns rest W (a5 W a) ho hr);have a2:=Aa (λb r W (hN:NB W b 107 0 [] [] ns r)=>LN b 107 0 [] [] ns r x W hN ho hx);have a3:Hid (∀W,ao w.1.size w W->AM x=T->aU ab 42 #[G (I ⟨H,0,F⟩),bd #[Y E 0,Z x.1,Z x.2,Y E x.3,Y E 0,aa F 0 0,aa F 0 0,aa F 0 0,aa F 0 0]] W λe w'=>Hid (WdN w P H M D k S A B N d ⟨0,x,0,[],[],[],[]⟩ torn down (CX ns x) e w')):=Aa (λW a b9=>by obtain⟨g1,g2,g3,g4⟩:=X W a;exact(NH H M D k S A B N _ x ns d torn down W (Fc b9) g1 (ad rfl) hn ho hx hw g2 v g3).mono (λe w' h=>Aa (h.anchor g4)));have Q:Hid (∀W,ao w.1.size w W->Hs w P H M S A B N W/\DB W D d):=Aa (λW a=>by obtain⟨g1,g2,g3,g4⟩:=X W a;exact⟨g1.anchor g4,g2⟩);obtain⟨t,tx,nh⟩:=x;simp only at*;have n:ao w.1.size w (w.alloc (aH #[Z t,Z tx,Y E nh] 45)):=(aD _ _).alloc (ax _) _;have i:=Blk.new w #[Z t,Z tx,Y E nh] 45;obtain⟨c,b7⟩:∃c,w.alloc (aH #[Z t,Z tx,Y E nh] 45)=c:=⟨_,rfl⟩;rw[b7]at n i;have hX:w.1.size<c.1.size:=(ak.1 i).1;have HS:Hid (∀W,ao c.1.size c W->(W.cell? ⟨w.1.size,0,F⟩=I (Z t)/\W.cell? ⟨w.1.size,1,F⟩=I (Z tx)/\W.cell? ⟨w.1.size,2,F⟩=I (Y E nh))/\ao c.1.size c W):=Aa (λW a=>⟨⟨(a.cell (p:=⟨w.1.size,0,F⟩) hX).trans (by simpa using i.cell 0),(a.cell (p:=⟨w.1.size,1,F⟩) hX).trans (by simpa using i.cell 1),(a.cell (p:=⟨w.1.size,2,F⟩) hX).trans (by simpa using i.cell 2)⟩,a⟩);obtain⟨er,f⟩:∃er,Hid (Bo ns ⟨t,tx,nh⟩=er):=⟨_,rfl⟩;have L:Hid (∀W,ao c.1.size c W->aU ab 40 #[G (I ⟨H,0,F⟩)] W λe w'=>∃b r,e=am (G (I ⟨b,0,F⟩))/\Hid (c.1.size<=b/\NB w' b 107 0 [] [] ns r)/\ao c.1.size c w'):=Aa (λW a=>(a1.o W (Ab n n.4 a)).mono (λe w' h=>by obtain⟨b,r,h1,h2⟩:=h;obtain⟨h2,h3,h4⟩:=h2.o;exact⟨b,r,h1,Aa ⟨al a.4 h2,h3⟩,Ab a a.4 h4⟩));have m:Hid (∀b r W,Hid (c.1.size<=b/\NB W b 107 0 [] [] ns r)->ao c.1.size c W->aU ab 41 #[G (I ⟨b,0,F⟩),bd #[Z t,Z tx,Y E nh]] W λe w'=>e=am (I2 er)/\ao c.1.size c w'):=Aa (λb r W h1 a=>(a2.o b r W h1.o.2).mono (λe w' h=>⟨by rw[<-f.o];exact h.1,BG a h.2.2 h1.o.1⟩));have a0:=Aa n;have b4:ao c.1.size c c:=aD _ _;obtain⟨⟨c0,c1,c2⟩,-⟩:=HS.o c b4;clear h a6 hn ho hr hx hw hD v hL a4 V b5 a7 b6 a8 sub X hc b1 b0 a5 a1 n i;go_enter func12,ntmps12;go_wp2;go_region_held3(λW=>(W.cell? ⟨w.1.size,0,F⟩=I (Z t)/\W.cell? ⟨w.1.size,1,F⟩=I (Z tx)/\W.cell? ⟨w.1.size,2,F⟩=I (Y E nh))/\ao c.1.size c W)
  ((refine HS.o _ ?_;repeat(with_reducible first|assumption|refine Below.drew ?_)))
  ((first
    |(go_at_call 40;refine Calls.mono (L.out _ (by repeat(with_reducible first|assumption|refine Below.drew ?_))) ?_;rintro e w5 ⟨b,r,rfl,h5,b3⟩)
    |(go_at_call 41;refine Calls.mono (m.out b r _ (by first|exact h5|exact Aa ⟨h5.out.1,h5.out.2.below ((Below.refl _ _).drew) h5.out.2.lt⟩) (by repeat(with_reducible first|assumption|refine Below.drew ?_))) ?_;rintro e w6 ⟨rfl,U⟩)));all_goals
  have q:ao w.1.size w w6:=Ab a0.o a0.o.4 U;obtain⟨⟨c0,c1,c2⟩,-⟩:=HS.o w6 U;have u:=Aa (Q.o w6 q);have R:=Aa (a3.o w6 q);clear h5 b3 U L m HS q Q a3;by_cases he:er=0;case neg=>have s:I2 er=aV 23 (Y E er):=if_neg he;rw[s];have He:=Aa he;clear he s;go_wp2;go_ret;rw[<-f.o];exact an ⟨by rw[f.o];exact He.o,rfl,u.o.1,u.o.2⟩
  subst he;have s:I2 0=.nilIface:=rfl;rw[s];have b2:=Aa (R.o (OS f.o));clear s R;by_cases l:t=Al
  ·have e:t.toList=[100,101,97,100]:=by rw[l,aI];rfl
   have g:=Aa l;clear l;go_wp2;go_ret;exact ad (an ⟨f.o,g.o,rfl,u.o.1,u.o.2⟩)
  ·have e:¬t.toList=[100,101,97,100]:=λe=>l (ByteArray.ext (aZ.1 (by rw[aI]at e;exact e)));have e2:(t.toList==[100,101,97,100])=ar:=by simpa using e
   have g:=Aa l;clear l e;go_wp2_with(go_at_call 42;go_must(refine b2.o.mono ?_);intro e w7 hr;rcases hr.o with⟨hd,rfl,hs,j⟩|⟨hd,z,rfl,hs,j⟩|⟨hd,z,b,d',a9,j,⟨rfl,rfl,hs⟩|⟨rfl,rfl,hs⟩⟩<;>refine aA ?_)
   ·refine Aa ?_;go_wp2;go_ret;exact ad (ad ⟨f.o,g.o,an ⟨hd,rfl,hs,j⟩⟩)
   ·refine Aa ?_;go_wp2;go_ret;exact ad (ad ⟨f.o,g.o,ad (an ⟨hd,z,rfl,hs,j⟩)⟩)
   ·refine Aa ?_;go_wp2;go_ret;exact ad (ad ⟨f.o,g.o,ad (ad ⟨hd,z,ar,d',a9,j,an ⟨rfl,rfl,hs⟩⟩)⟩)
   ·refine Aa ?_;go_wp2;go_ret;exact ad (ad ⟨f.o,g.o,ad (ad ⟨hd,z,T,d',a9,j,ad ⟨rfl,rfl,hs⟩⟩)⟩)
theorem DL{A:List Pl}(h:A.Pairwise λa b=>a.m.1≠b.m.1){x y:Pl}(hx:x∈A)(c:y∈A)(e:x.m.1=y.m.1):x=y:=by
 induction A with
 |nil=>cases hx
 |cons a r ih=>
  obtain⟨f,g⟩:=aK.1 h;rcases aM.1 hx with ex|hx
  ·rcases aM.1 c with d|c
   ·rw[ex,d]
   ·exact absurd e (ex▸f y c)
  ·rcases aM.1 c with d|c
   ·exact absurd e.symm (d▸f x hx)
   ·exact ih g hx c
theorem Di{u:Nat}{x:Pl}(h:x.u≠(u:Int)):BI u x=x:=if_neg h
theorem Ql(s:ByteArray)(a:List Mg):Ay (DF s a)=DF s a:=by
 unfold DF;induction a.filter (λm=>decide (m.4=s))with
 |nil=>rfl
 |cons m r ih=>rw[aE,Bb,if_pos (by simp[Pl.kept]),ih]
theorem Ly{s:ByteArray}{c:List Mg}{x:Pl}:x∈DF s c↔∃m∈c,m.4=s/\x=⟨m,-1,ar⟩:=by
 unfold DF;rw[aX];constructor
 ·rintro⟨m,d,rfl⟩;obtain⟨a,b⟩:=C.1 d;exact⟨m,a,by simpa using b,rfl⟩
 ·rintro⟨m,a,b,rfl⟩;exact⟨m,C.2 ⟨a,by simpa using b⟩,rfl⟩
theorem NU(A:List Pl):Ay (Ay A)=Ay A:=by
 induction A with
 |nil=>rfl
 |cons x r ih=>
  rw[Bb];split
  ·rw[Bb,if_pos (by simp[Pl.kept]),ih]
  ·exact ih
end
end Go.Proofs.YtkabgmdjfiidhaaGreatDoor
