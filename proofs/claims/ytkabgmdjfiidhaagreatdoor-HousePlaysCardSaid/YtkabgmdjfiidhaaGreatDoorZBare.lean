import Derived.Test.YtkabgmdjfiidhaaGreatDoorZList
import Derived.LaidEql
import Derived.Stop.Asserts
import Derived.RowKitTokens
import Derived.Deep.QuietTactic
import Derived.BigQuiet
import Derived.Handy
set_option maxHeartbeats 0
set_option maxRecDepth 99999
open Go.Value renaming pointer->F,int->G,iface->S,agg->U,bool->aw,nilIface->aB,tuple->aG
open Go.Proofs.Tryz renaming prog->Z,underlying294->aE,ntmps100->aK,ntmps172->aL,func100->aM,func172->aN,ntmps36->aO,func36->aP
open Option renaming none->I,some->J
open Go renaming run_callFunc_extern->E,World->Y,Calls->ax,Value->ay,wp_loop_rounds->aC,method->aF,rounds_succ->aH,underlying->aI,loadVar->aR
open Go.Extern.ReflectliteValue renaming valueError->C,parts->R,method->ab,unpack->ai,isNil->an,elem->ao,methodAny->au,flagAddr->av,mk->aQ
open Go.World renaming cell?_alloc_lt->T,frozen?_alloc_old->ac,block_lt_of_cell?->ak
open Go.Extern.ReflectliteType renaming relation->V,assignableTo->ad,abiMethod->ag,typeOf->am,implements_->aq,method->az,toType->aA,elem->aD
open Go.IntKind renaming i64->X,u64->aj,u8->aJ
open Go.Ending renaming returned->aa
open Go.Result renaming andThen->ae,ok->ar
open Go.Obj renaming cells->af
open Nat renaming le_refl->ah
open Go.RowKit renaming Below->al
open Go.RowKit.Below renaming refl->ap
open Go.Proofs.Tryz
namespace Go.Proofs.YtkabgmdjfiidhaaGreatDoor
section
open Go.RowKit Go.Extern.Stop Go.Stop Go.Extern
theorem Zk:typeHandle Z 27=F (J ⟨13,27,I⟩):=K
theorem Sn(t:Addr)(w:Y):(ai (S 294 (F (J t)))).run Z w=ar (U #[F (J ⟨13,294,I⟩),F (J ⟨w.1.size,0,I⟩),G aj 150]) (w.alloc (af #[F (J t)] 294)):=K
theorem XV(a:Addr)(w:Y):(au (C "reflectlite.Value.Type" 0) (λt _ _ _=>aA t) #[U #[F (J ⟨13,294,I⟩),F (J a),G aj 150]]).run Z w=ar (S 299 (U #[F (J ⟨13,294,I⟩)])) w:=K
theorem Xr(w:Y):((ag λt=>(λa:Nat=>G aJ (a:Int))<$>Rtype.kind t) #[F (J ⟨13,294,I⟩)]).run Z w=ar (G aJ 22) w:=K
theorem Xq(w:Y):((ag λt=>(λa:Nat=>G aJ (a:Int))<$>Rtype.kind t) #[F (J ⟨13,23,I⟩)]).run Z w=ar (G aJ 2) w:=K
theorem Oq(h:ay)(w:Y):(aF 516 299 (U #[h]) "Kind").run Z w=ar (330,h) w:=K
theorem Oo(h:ay)(w:Y):(aF 516 299 (U #[h]) "Elem").run Z w=ar (343,U #[h]) w:=K
theorem GG(h:ay)(w:Y):(aF 516 299 (U #[h]) "Implements").run Z w=ar (344,U #[h]) w:=K
theorem FQ(h:ay)(w:Y):(aF 516 299 (U #[h]) "AssignableTo").run Z w=ar (342,U #[h]) w:=K
theorem Xe(w:Y):(az aD #[U #[F (J ⟨13,294,I⟩)]]).run Z w=ar (S 299 (U #[F (J ⟨13,23,I⟩)])) w:=K
theorem Ln(w:Y):(V "Implements" aq #[U #[F (J ⟨13,23,I⟩)],S 299 (U #[F (J ⟨13,27,I⟩)])]).run Z w=ar (aw true) w:=K
theorem UU(v:ay)(w:Y):(am #[S 23 v]).run Z w=ar (S 299 (U #[F (J ⟨13,23,I⟩)])) w:=K
theorem UV(v:ay)(w:Y):(am #[S 230 v]).run Z w=ar (S 299 (U #[F (J ⟨13,230,I⟩)])) w:=K
theorem K3(w:Y):(V "AssignableTo" ad #[U #[F (J ⟨13,23,I⟩)],S 299 (U #[F (J ⟨13,23,I⟩)])]).run Z w=ar (aw true) w:=K
theorem K4(w:Y):(V "AssignableTo" ad #[U #[F (J ⟨13,230,I⟩)],S 299 (U #[F (J ⟨13,23,I⟩)])]).run Z w=ar (aw false) w:=K
theorem Sm(e:Int)(w:Y):(ai (S 23 (G X e))).run Z w=ar (U #[F (J ⟨13,23,I⟩),F (J ⟨w.1.size,0,I⟩),G aj 130]) (w.alloc (af #[G X e] 23)):=K
theorem PI(a:Addr)(w:Y):(R (U #[F (J ⟨13,294,I⟩),F (J a),G aj 150])).run Z w=ar (J (294,a,150)) w:=K
theorem VS(a p:Addr)(W:Y)(b:W.cell? a=J (F (J p))):(ab (C "reflectlite.Value.IsNil" 0) an #[U #[F (J ⟨13,294,I⟩),F (J a),G aj 150]]).run Z W=ar (aw false) W:=by change Sem.run Z (bind (R (U #[F (J ⟨13,294,I⟩),F (J a),G aj 150])) _) W=_;simp only[Sem.run_bind,PI,ae];simp[an,aR,isAgg,aI,aE,b,ae]
theorem SZ(w:Y):(Rtype.elem? 294).run Z w=ar (J 23) w:=K
theorem Zg(p:Addr)(w:Y):(aQ 23 p av).run Z w=ar (U #[F (J ⟨13,23,I⟩),F (J p),G aj 386]) w:=K
theorem Vu(a p:Addr)(W:Y)(b:W.cell? a=J (F (J p))):(ab (C "reflectlite.Value.Elem" 0) ao #[U #[F (J ⟨13,294,I⟩),F (J a),G aj 150]]).run Z W=ar (U #[F (J ⟨13,23,I⟩),F (J p),G aj 386]) W:=by change Sem.run Z (bind (R (U #[F (J ⟨13,294,I⟩),F (J a),G aj 150])) _) W=_;simp only[Sem.run_bind,PI,ae];simp[ao,aR,isAgg,aI,aE,b,ae,SZ,Zg]
theorem TZ(a:Addr)(w:Y):(R (U #[F (J ⟨13,23,I⟩),F (J a),G aj 386])).run Z w=ar (J (23,a,386)) w:=K
theorem T5(a:Addr)(w:Y):(R (U #[F (J ⟨13,23,I⟩),F (J a),G aj 130])).run Z w=ar (J (23,a,130)) w:=K
theorem SW(w:Y):(Rtype.directlyAssignable 23 23).run Z w=ar true w:=K
theorem YQ(a b:Addr)(e:Int)(c:ay)(W:Y)(d:W.cell? b=J (G X e))(g:W.cell? a=J c)(f:W.frozen? a=false):(ReflectliteValue.set #[U #[F (J ⟨13,23,I⟩),F (J a),G aj 386],U #[F (J ⟨13,23,I⟩),F (J b),G aj 130]]).run Z W=ar (aG #[]) (W.setCell a (G X e)):=by change Sem.run Z (bind (R (U #[F (J ⟨13,23,I⟩),F (J a),G aj 386])) (λ_=>bind (R (U #[F (J ⟨13,23,I⟩),F (J b),G aj 130])) _)) W=_;simp only[Sem.run_bind,TZ,T5,ae];simp[av,aR,isAgg,aI,underlying23,d,ae,SW,storeVar,Value.cells,storeCells,Addr.add];rw[run_store Z W a _ _ (by rfl)];simp[g,f]

theorem AY{B:Nat}{a w:Y}(h:al B a w)(n:Nat):al B a (w.drewN n):=⟨h.1,h.2,h.3,h.4,h.5⟩
theorem UQ(w:Y):ax Z 172 #[aB] w λe w'=>e=aa (G X 0)/\w'=w:=by go_enter aN,aL;go_wp2;go_ret;exact⟨rfl,rfl⟩
theorem Rw(w:Y):ax Z 100 #[aB] w λe w'=>e=aa (aG #[G X 0,G X (-1)])/\w'=w:=by go_enter aM,aK;go_wp2_with(go_at_call 172;refine(UQ _).mono ?_;rintro e w' ⟨rfl,rfl⟩);refine aC 1 ?_;rw[aH];go_wp2;go_ret2;exact⟨rfl,rfl⟩
theorem Xp(a pl:Int)(w:Y)(b:a=0)(c:pl=-1):ax Z 36 #[aB,U #[G X a,G X pl]] w λe w'=>e=aa (aw true)/\al w.1.size w w':=by subst b;subst c;go_enter aP,aO;go_wp2_with(go_at_call 100;refine(Rw _).mono ?_;rintro e w' ⟨rfl,rfl⟩);go_ret;exact⟨rfl,(ap _ _).alloc (ah _) _⟩
theorem SM(t:Nat)(d:Int)(c:ay)(w:Y)(g:w.cell? ⟨6,0,I⟩=J (S 299 (U #[F (J ⟨13,27,I⟩)])))(a:w.cell? ⟨t,0,I⟩=J c)(e:w.frozen? ⟨t,0,I⟩=false):ax Z 227 #[S 23 (G X d),S 294 (F (J ⟨t,0,I⟩))] w λl w'=>l=aa (aw true)/\∃w1,al w.1.size w w1/\w'=w1.setCell ⟨t,0,I⟩ (G X d):=by
 have A:=@E Z 191 _ (λargs=>ai (args.getD 0 (aG #[]))) func191 K K K K;have B:=@E Z 281 _ (au (C "reflectlite.Value.Type" 0) (λt _ _ _=>aA t)) func281 K K K K;have D:=@E Z 282 _ (ab (C "reflectlite.Value.IsNil" 0) an) func282 K K K K;have p:=@E Z 330 _ (ag λt=>do pure (G aJ (<-Rtype.kind t))) func330 K K K K;have r:=@E Z 343 _ (az aD) func343 K K K K;have s:=@E Z 344 _ (V "Implements" aq) func344 K K K K;have m:=@E Z 307 _ am func307 K K K K;have q:=@E Z 342 _ (V "AssignableTo" ad) func342 K K K K;have n:=@E Z 308 _ (ab (C "reflectlite.Value.Elem" 0) ao) func308 K K K K;have o:=@E Z 309 _ ReflectliteValue.set func309 K K K K;have Q:=UU;have i:=UV;have H:=FQ;have a27:=K3;have j:=K4;have v27:=Sm;have f6:=Sn;have f7:=XV;have N:=Oq;have L:=Oo;have M:=GG;have y:=Xr;have x:=Xq;have k:=Xe;have v:=Ln;have P:=VS ⟨w.1.size,0,I⟩ ⟨t,0,I⟩ ((w.alloc (af #[F (J ⟨t,0,I⟩)] 294)).alloc (af #[F (J ⟨13,294,I⟩),F (J ⟨w.1.size,0,I⟩),G aj 150] 255)) oS;have f:6<w.1.size:=ak w _ g;have b:t<w.1.size:=by
  rcases Nat.lt_or_ge t w.1.size with h|h
  ·exact h
  ·simp[World.cell?,Array.getElem?_eq_none h]at a
 have u:((w.alloc (af #[F (J ⟨t,0,I⟩)] 294)).alloc (af #[F (J ⟨13,294,I⟩),F (J ⟨w.1.size,0,I⟩),G aj 150] 255)).cell? ⟨6,0,I⟩=J (S 299 (U #[F (J ⟨13,27,I⟩)])):=by rw[T _ _ ⟨6,0,I⟩ oO,T _ _ ⟨6,0,I⟩ f];exact g
 have z:=Vu ⟨w.1.size,0,I⟩ ⟨t,0,I⟩ (((w.alloc (af #[F (J ⟨t,0,I⟩)] 294)).alloc (af #[F (J ⟨13,294,I⟩),F (J ⟨w.1.size,0,I⟩),G aj 150] 255)).alloc (af #[F (J ⟨13,294,I⟩),F (J ⟨w.1.size,0,I⟩),G aj 150] 255)) (by rw[T _ _ ⟨w.1.size,0,I⟩ oO];simp);have st:=YQ ⟨t,0,I⟩ ⟨w.1.size+1+1+1,0,I⟩ d c ((((w.alloc (af #[F (J ⟨t,0,I⟩)] 294)).alloc (af #[F (J ⟨13,294,I⟩),F (J ⟨w.1.size,0,I⟩),G aj 150] 255)).alloc (af #[F (J ⟨13,294,I⟩),F (J ⟨w.1.size,0,I⟩),G aj 150] 255)).alloc (af #[G X d] 23))
  (by rw[World.cell?_alloc_at _ _ _ _ oS];rfl)
  (by rw[T _ _ ⟨t,0,I⟩ oO,T _ _ ⟨t,0,I⟩ oO,T _ _ ⟨t,0,I⟩ oO,T _ _ ⟨t,0,I⟩ b];exact a)
  (by rw[ac _ _ ⟨t,0,I⟩ oO,ac _ _ ⟨t,0,I⟩ oO,ac _ _ ⟨t,0,I⟩ oO,ac _ _ ⟨t,0,I⟩ (Nat.ne_of_lt b)];exact e);go_enter func227,ntmps227;go_wp2;refine aC 1 ?_;rw[aH];go_wp2;go_ret;exact⟨rfl,_,((((ap _ _).alloc (ah _) _).alloc oS _).alloc oO _).alloc oO _,rfl⟩
theorem Qi(a:Int)(w:Y)(d:w.cell? ⟨6,0,I⟩=J (S 299 (U #[F (J ⟨13,27,I⟩)]))):ax Z 227 #[S 23 (G X a),S 294 (F (J ⟨w.1.size,0,I⟩))] (w.alloc (af #[G X 0] 23)) λf w'=>f=aa (aw true)/\w'.cell? ⟨w.1.size,0,I⟩=J (G X a)/\al w.1.size w w':=by have b:=ak w _ d;refine(SM w.1.size a (G X 0) _ ((T _ _ ⟨6,0,I⟩ b).trans d) oS oS).mono ?_;rintro e w' ⟨rfl,w1,c,rfl⟩;have g:w1.cell? ⟨w.1.size,0,I⟩=J (G X 0):=(c.cell (p:=⟨w.1.size,0,I⟩) oS).trans oS;refine⟨rfl,?_,((ap _ _).alloc (ah _) _).trans ((c.mono oS).setCell (p:=⟨w.1.size,0,I⟩) (ah _) _)⟩;exact World.cell?_setCell_same _ _ _ g
theorem O1(a:Int)(w:Y)(b:w.cell? ⟨6,0,I⟩=J (S 299 (U #[F (J ⟨13,27,I⟩)]))):ax Z 172 #[S 23 (G X a)] w λe w'=>e=aa (G X a)/\al w.1.size w w':=by have c:=Aa (Qi a w b);clear b;go_enter aN,aL;go_wp2_with(go_at_call 227;go_must(refine c.o.mono ?_);rintro e w' ⟨rfl,f,d⟩);go_ret;exact⟨rfl,d⟩
theorem YS(v:ay)(a:TypeId)(w:Y):(Instr.typeAssert (S 23 v) a 230 true).run Z w=ar (aG #[F I,aw false]) w:=K
theorem YT(v:ay)(a:TypeId)(w:Y):(Instr.typeAssert (S 23 v) a 233 true).run Z w=ar (aG #[aB,aw false]) w:=run_typeAssert_lacksB underlying233 K K v a w
theorem Mh{B:Nat}{w W w':Y}(h:al B w W)(b:B<=W.1.size)(a:al W.1.size W w'):al B w w':=h.trans (a.mono b)
def Av(e:Int):ay:=if e=0 then aB else S 23 (G X e)
def Glob(w:Y):Prop:=w.cell? ⟨6,0,I⟩=J (S 299 (U #[F (J ⟨13,27,I⟩)]))
theorem Glob.lt{w:Y}(h:Glob w):6<w.1.size:=ak w _ h
theorem Glob.below{w w':Y}{B:Nat}(h:Glob w)(b:al B w w')(a:6<B):Glob w':=(b.cell (p:=⟨6,0,I⟩) a).trans h
theorem M7(a:Int)(w:Y)(b:Glob w):ax Z 100 #[S 23 (G X a)] w λe w'=>e=aa (aG #[G X a,G X (-1)])/\al w.1.size w w':=by have c:=Aa (O1 a w b);have f:=YS;have t2:=YT;clear b;go_enter aM,aK;go_wp2_with(go_at_call 172;go_must(refine c.o.mono ?_);rintro e w' ⟨rfl,d⟩);refine aC 1 ?_;rw[aH];go_wp2;go_ret2;exact⟨rfl,d⟩
theorem TA(a:Int)(w:Y)(c:Glob w):ax Z 36 #[S 23 (G X a),U #[G X a,G X (-1)]] w λe w'=>e=aa (aw true)/\al w.1.size w w':=by have d:=Aa (M7 a (w.alloc (af #[G X a,G X (-1)] 96)) (c.below ((ap _ _).alloc (ah _) _) c.lt));clear c;have f:(a==a)=true:=oS;go_enter aP,aO;go_wp2_with(go_at_call 100;go_must(refine d.o.mono ?_);rintro e w' ⟨rfl,b⟩;refine Hid.out ?_);refine Aa ?_;have c0:w'.cell? ⟨w.1.size,0,I⟩=J (G X a):=(b.cell (p:=⟨w.1.size,0,I⟩) oS).trans oS;have c1:w'.cell? ⟨w.1.size,1,I⟩=J (G X (-1)):=(b.cell (p:=⟨w.1.size,1,I⟩) oS).trans oS;go_wp2;go_ret;exact⟨rfl,((ap _ _).alloc (ah _) _).trans (b.mono oS)⟩
theorem Nc(a:Int)(w:Y):ax Z 37 #[G X a] w λe w'=>e=aa (U #[G X a,G X (-1)])/\al w.1.size w w':=by go_enter func37,ntmps37;go_wp2;go_returns;exact⟨rfl,(ap _ _).alloc (ah _) _⟩
theorem CH(a:Int)(w:Y)(d:Glob w):ax Z 8 #[Av a,G X a] w λe w'=>e=aa (aw true)/\al w.1.size w w':=by
 have f:Hid (∀W,al w.1.size w W->ax Z 36 #[Av a,U #[G X a,G X (-1)]] W λe w'=>e=aa (aw true)/\al W.1.size W w'):=Aa λW g=>by
  unfold Av;by_cases h:a=0
  ·rw[if_pos h];exact Xp a (-1) W h rfl
  ·rw[if_neg h];exact TA a W (d.below g d.lt)
 generalize Av a=ev at f⊢;clear d;go_enter func8,ntmps8;go_wp2_with(go_at_call 37;go_must(refine(Nc a _).mono ?_);rintro e w1 ⟨rfl,b⟩;refine Hid.out ?_);refine Aa ?_;go_wp2_with(go_at_call 36;go_must(refine(f.o _ b).mono ?_);rintro e w2 ⟨rfl,c⟩);go_ret;exact⟨rfl,Mh b b.4 c⟩
end
end Go.Proofs.YtkabgmdjfiidhaaGreatDoor
