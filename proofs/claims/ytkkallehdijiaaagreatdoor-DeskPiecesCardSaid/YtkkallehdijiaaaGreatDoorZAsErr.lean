import Derived.Test.YtkkallehdijiaaaGreatDoorZList
import Derived.LaidEql
import Derived.Stop.Asserts
import Derived.RowKitTokens
import Derived.Deep.QuietTactic
import Derived.BigQuiet
import Derived.Handy
set_option linter.all false
set_option maxHeartbeats 0
set_option maxRecDepth 99999
open Go.Value renaming pointer->F,int->T,agg->S,iface->V,bool->aA
open Go.Proofs.Tryz renaming prog->Z,underlying194->aw
open Option renaming some->I,none->J
open Go renaming run_callFunc_extern->G,World->U,Value->av,method->ax,underlying->ay,loadVar->aC
open Go.Extern.ReflectliteValue renaming valueError->E,parts->C,method->X,unpack->af,isNil->ai,elem->aj,methodAny->al,flagAddr->am,mk->aB
open Go.World renaming cell?_alloc_lt->Y,frozen?_alloc_old->aa,block_lt_of_cell?->ap
open Go.Extern.ReflectliteType renaming relation->R,assignableTo->ab,abiMethod->ad,typeOf->ah,implements_->ak,method->aq,toType->ar,elem->au
open Go.Result renaming andThen->ac,ok->an
open Go.Obj renaming cells->ae
open Go.IntKind renaming u64->ag,i64->ao,u8->az
open Go.Proofs.Tryz
namespace Go.Proofs.YtkkallehdijiaaaGreatDoor
section
open Go.RowKit Go.Extern.Stop Go.Stop Go.Extern
theorem Co{B:Nat}{a w:U}(h:Below B a w)(n:Nat):Below B a (w.drewN n):=⟨h.1,h.2,h.3,h.4,h.5⟩
def Bb(e:Int):av:=if e=0 then .nilIface else V 25 (T ao e)
theorem Q2U:typeHandle Z 36=F (I ⟨12,36,J⟩):=K
theorem TC(t:Addr)(w:U):(af (V 194 (F (I t)))).run Z w=an (S #[F (I ⟨12,194,J⟩),F (I ⟨w.1.size,0,J⟩),T ag 150]) (w.alloc (ae #[F (I t)] 194)):=K
theorem Q0D(a:Addr)(w:U):(al (E "reflectlite.Value.Type" 0) (λt _ _ _=>ar t) #[S #[F (I ⟨12,194,J⟩),F (I a),T ag 150]]).run Z w=an (V 299 (S #[F (I ⟨12,194,J⟩)])) w:=K
theorem Q0l(w:U):((ad λt=>(λa:Nat=>T az (a:Int))<$>Rtype.kind t) #[F (I ⟨12,194,J⟩)]).run Z w=an (T az 22) w:=K
theorem Q0k(w:U):((ad λt=>(λa:Nat=>T az (a:Int))<$>Rtype.kind t) #[F (I ⟨12,25,J⟩)]).run Z w=an (T az 2) w:=K
theorem PV(h:av)(w:U):(ax 472 299 (S #[h]) "Kind").run Z w=an (308,h) w:=K
theorem PU(h:av)(w:U):(ax 472 299 (S #[h]) "Elem").run Z w=an (324,S #[h]) w:=K
theorem If(h:av)(w:U):(ax 472 299 (S #[h]) "Implements").run Z w=an (325,S #[h]) w:=K
theorem Gb(h:av)(w:U):(ax 472 299 (S #[h]) "AssignableTo").run Z w=an (322,S #[h]) w:=K
theorem Z4(w:U):(aq au #[S #[F (I ⟨12,194,J⟩)]]).run Z w=an (V 299 (S #[F (I ⟨12,25,J⟩)])) w:=K
theorem MK(w:U):(R "Implements" ak #[S #[F (I ⟨12,25,J⟩)],V 299 (S #[F (I ⟨12,36,J⟩)])]).run Z w=an (aA true) w:=K
theorem WH(v:av)(w:U):(ah #[V 25 v]).run Z w=an (V 299 (S #[F (I ⟨12,25,J⟩)])) w:=K
theorem WJ(v:av)(w:U):(ah #[V 213 v]).run Z w=an (V 299 (S #[F (I ⟨12,213,J⟩)])) w:=K
theorem Mq(w:U):(R "AssignableTo" ab #[S #[F (I ⟨12,25,J⟩)],V 299 (S #[F (I ⟨12,25,J⟩)])]).run Z w=an (aA true) w:=K
theorem Mr(w:U):(R "AssignableTo" ab #[S #[F (I ⟨12,213,J⟩)],V 299 (S #[F (I ⟨12,25,J⟩)])]).run Z w=an (aA false) w:=K
theorem TA(e:Int)(w:U):(af (V 25 (T ao e))).run Z w=an (S #[F (I ⟨12,25,J⟩),F (I ⟨w.1.size,0,J⟩),T ag 130]) (w.alloc (ae #[T ao e] 25)):=K
theorem Rg(a:Addr)(w:U):(C (S #[F (I ⟨12,194,J⟩),F (I a),T ag 150])).run Z w=an (I (194,a,150)) w:=K
theorem Yj(a p:Addr)(W:U)(b:W.cell? a=I (F (I p))):(X (E "reflectlite.Value.IsNil" 0) ai #[S #[F (I ⟨12,194,J⟩),F (I a),T ag 150]]).run Z W=an (aA false) W:=by change Sem.run Z (bind (C (S #[F (I ⟨12,194,J⟩),F (I a),T ag 150])) _) W=_;simp only[Sem.run_bind,Rg,ac];simp[ai,aC,isAgg,ay,aw,b,ac]
theorem UM(w:U):(Rtype.elem? 194).run Z w=an (I 25) w:=K
theorem Q1V(p:Addr)(w:U):(aB 25 p am).run Z w=an (S #[F (I ⟨12,25,J⟩),F (I p),T ag 386]) w:=K
theorem XS(a p:Addr)(W:U)(b:W.cell? a=I (F (I p))):(X (E "reflectlite.Value.Elem" 0) aj #[S #[F (I ⟨12,194,J⟩),F (I a),T ag 150]]).run Z W=an (S #[F (I ⟨12,25,J⟩),F (I p),T ag 386]) W:=by change Sem.run Z (bind (C (S #[F (I ⟨12,194,J⟩),F (I a),T ag 150])) _) W=_;simp only[Sem.run_bind,Rg,ac];simp[aj,aC,isAgg,ay,aw,b,ac,UM,Q1V]
theorem VS(a:Addr)(w:U):(C (S #[F (I ⟨12,25,J⟩),F (I a),T ag 386])).run Z w=an (I (25,a,386)) w:=K
theorem VT(a:Addr)(w:U):(C (S #[F (I ⟨12,25,J⟩),F (I a),T ag 130])).run Z w=an (I (25,a,130)) w:=K
theorem UK(w:U):(Rtype.directlyAssignable 25 25).run Z w=an true w:=K
theorem Q1z(a b:Addr)(e:Int)(c:av)(W:U)(d:W.cell? b=I (T ao e))(g:W.cell? a=I c)(f:W.frozen? a=false):(ReflectliteValue.set #[S #[F (I ⟨12,25,J⟩),F (I a),T ag 386],S #[F (I ⟨12,25,J⟩),F (I b),T ag 130]]).run Z W=an (.tuple #[]) (W.setCell a (T ao e)):=by change Sem.run Z (bind (C (S #[F (I ⟨12,25,J⟩),F (I a),T ag 386])) (λ_=>bind (C (S #[F (I ⟨12,25,J⟩),F (I b),T ag 130])) _)) W=_;simp only[Sem.run_bind,VS,VT,ac];simp[am,aC,isAgg,ay,underlying25,d,ac,UK,storeVar,Value.cells,storeCells,Addr.add];rw[run_store Z W a _ _ (by rfl)];simp[g,f]
theorem Ul(t:Nat)(d:Int)(c:av)(w:U)(g:w.cell? ⟨6,0,J⟩=I (V 299 (S #[F (I ⟨12,36,J⟩)])))(a:w.cell? ⟨t,0,J⟩=I c)(e:w.frozen? ⟨t,0,J⟩=false):Calls Z 157 #[V 25 (T ao d),V 194 (F (I ⟨t,0,J⟩))] w λl w'=>l=.returned (aA true)/\∃w1,Below w.1.size w w1/\w'=w1.setCell ⟨t,0,J⟩ (T ao d):=by
 have A:=@G Z 212 _ (λargs=>af (args.getD 0 (.tuple #[]))) func212 K K K K;have B:=@G Z 213 _ (al (E "reflectlite.Value.Type" 0) (λt _ _ _=>ar t)) func213 K K K K;have D:=@G Z 214 _ (X (E "reflectlite.Value.IsNil" 0) ai) func214 K K K K;have p:=@G Z 308 _ (ad λt=>do pure (T az (<-Rtype.kind t))) func308 K K K K;have r:=@G Z 324 _ (aq au) func324 K K K K;have s:=@G Z 325 _ (R "Implements" ak) func325 K K K K;have m:=@G Z 261 _ ah func261 K K K K;have q:=@G Z 322 _ (R "AssignableTo" ab) func322 K K K K;have n:=@G Z 262 _ (X (E "reflectlite.Value.Elem" 0) aj) func262 K K K K;have o:=@G Z 263 _ ReflectliteValue.set func263 K K K K;have Q:=WH;have i:=WJ;have H:=Gb;have a27:=Mq;have j:=Mr;have v27:=TA;have f6:=TC;have f7:=Q0D;have N:=PV;have L:=PU;have M:=If;have y:=Q0l;have x:=Q0k;have k:=Z4;have v:=MK;have P:=Yj ⟨w.1.size,0,J⟩ ⟨t,0,J⟩ ((w.alloc (ae #[F (I ⟨t,0,J⟩)] 194)).alloc (ae #[F (I ⟨12,194,J⟩),F (I ⟨w.1.size,0,J⟩),T ag 150] 239)) oS;have f:6<w.1.size:=ap w _ g;have b:t<w.1.size:=by
  rcases Nat.lt_or_ge t w.1.size with h|h
  ·exact h
  ·simp[World.cell?,Array.getElem?_eq_none h]at a
 have u:((w.alloc (ae #[F (I ⟨t,0,J⟩)] 194)).alloc (ae #[F (I ⟨12,194,J⟩),F (I ⟨w.1.size,0,J⟩),T ag 150] 239)).cell? ⟨6,0,J⟩=I (V 299 (S #[F (I ⟨12,36,J⟩)])):=by rw[Y _ _ ⟨6,0,J⟩ oO,Y _ _ ⟨6,0,J⟩ f];exact g
 have z:=XS ⟨w.1.size,0,J⟩ ⟨t,0,J⟩ (((w.alloc (ae #[F (I ⟨t,0,J⟩)] 194)).alloc (ae #[F (I ⟨12,194,J⟩),F (I ⟨w.1.size,0,J⟩),T ag 150] 239)).alloc (ae #[F (I ⟨12,194,J⟩),F (I ⟨w.1.size,0,J⟩),T ag 150] 239)) (by rw[Y _ _ ⟨w.1.size,0,J⟩ oO];simp);have st:=Q1z ⟨t,0,J⟩ ⟨w.1.size+1+1+1,0,J⟩ d c ((((w.alloc (ae #[F (I ⟨t,0,J⟩)] 194)).alloc (ae #[F (I ⟨12,194,J⟩),F (I ⟨w.1.size,0,J⟩),T ag 150] 239)).alloc (ae #[F (I ⟨12,194,J⟩),F (I ⟨w.1.size,0,J⟩),T ag 150] 239)).alloc (ae #[T ao d] 25))
  (by rw[World.cell?_alloc_at _ _ _ _ oS];rfl)
  (by rw[Y _ _ ⟨t,0,J⟩ oO,Y _ _ ⟨t,0,J⟩ oO,Y _ _ ⟨t,0,J⟩ oO,Y _ _ ⟨t,0,J⟩ b];exact a)
  (by rw[aa _ _ ⟨t,0,J⟩ oO,aa _ _ ⟨t,0,J⟩ oO,aa _ _ ⟨t,0,J⟩ oO,aa _ _ ⟨t,0,J⟩ (Nat.ne_of_lt b)];exact e);go_enter func157,ntmps157;go_wp2;refine wp_loop_rounds 1 ?_;rw[rounds_succ];go_wp2;go_ret;exact⟨rfl,_,((((Below.refl _ _).alloc (Nat.le_refl _) _).alloc oS _).alloc oO _).alloc oO _,rfl⟩
theorem RU(a:Int)(w:U)(d:w.cell? ⟨6,0,J⟩=I (V 299 (S #[F (I ⟨12,36,J⟩)]))):Calls Z 157 #[V 25 (T ao a),V 194 (F (I ⟨w.1.size,0,J⟩))] (w.alloc (ae #[T ao 0] 25)) λf w'=>f=.returned (aA true)/\w'.cell? ⟨w.1.size,0,J⟩=I (T ao a)/\Below w.1.size w w':=by have b:=ap w _ d;refine(Ul w.1.size a (T ao 0) _ ((Y _ _ ⟨6,0,J⟩ b).trans d) oS oS).mono ?_;rintro e w' ⟨rfl,w1,c,rfl⟩;have g:w1.cell? ⟨w.1.size,0,J⟩=I (T ao 0):=(c.cell (p:=⟨w.1.size,0,J⟩) oS).trans oS;refine⟨rfl,?_,((Below.refl _ _).alloc (Nat.le_refl _) _).trans ((c.mono oS).setCell (p:=⟨w.1.size,0,J⟩) (Nat.le_refl _) _)⟩;exact World.cell?_setCell_same _ _ _ g
theorem Qm(a:Int)(w:U)(b:w.cell? ⟨6,0,J⟩=I (V 299 (S #[F (I ⟨12,36,J⟩)]))):Calls Z 92 #[V 25 (T ao a)] w λe w'=>e=.returned (T ao a)/\Below w.1.size w w':=by have c:=Aa (RU a w b);clear b;go_enter func92,ntmps92;go_wp2_with(go_at_call 157;go_must(refine c.o.mono ?_);rintro e w' ⟨rfl,f,d⟩);go_ret;exact⟨rfl,d⟩
end
end Go.Proofs.YtkkallehdijiaaaGreatDoor
