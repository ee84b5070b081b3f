import Derived.Test.YtkkallehdijiaaaGreatDoorZDkQ
import Derived.Laws.EntriesVeiled
set_option linter.all false
set_option maxHeartbeats 0
set_option maxRecDepth 99999
open Go.Value renaming string->F,pointer->Z,func->aa,nilFunc->ab,slice->ah,tuple->ao,bool->ap
open Option renaming none->I,some->G
open Go.Proofs.Tryz renaming prog->J,ntmps19->ag,func19->aj
open Go.RowKit renaming Below->E
open Go.Ending renaming returned->Y
open Go.Fn renaming func->C
open Go renaming Calls->ac,World->af,Value->am
open Nat renaming lt_of_lt_of_le->ad,le_refl->an
open Go.Obj renaming cells->ae
open Array renaming getElem?_eq_some_iff->ai
open Go.Calls renaming mono->ak
open Go.Instr renaming lookup->al
namespace Go.Proofs.YtkkallehdijiaaaGreatDoor
section
open Go.RowKit
def Q1W:ByteArray:=⟨#[111,107]⟩
section
variable{S b m:Nat}{line t0:ByteArray}{w:af}{Q:af->Prop}{mv:am}
theorem SU(d:ac J 46 #[F line,aa (C 47) #[] #[]] w λr w'=>(∃a c,r=Y (ah a 0 c))/\Hid (Q w')):ac J 19 #[Z (G ⟨S,0,I⟩),F line] w λr w'=>r=Y (F Q1W)/\Hid (Q w'):=by have e:=Aa d;clear d;go_enter aj,ag;go_wp2_with(go_at_call 46;go_must(refine e.o.mono ?_);rintro r w1 ⟨⟨a,c,rfl⟩,f⟩;refine Hid.out ?_);refine Aa ?_;go_wp2;go_ret;exact⟨rfl,f⟩
theorem MW(k:w.cell? ⟨S,1,I⟩=G mv)(c:S<w.1.size)(e:ac J 46 #[F line,aa (C 47) #[] #[]] w λr w'=>∃b,r=Y (ah (G ⟨b,0,I⟩) (m+1) (m+1))/\Hid (E w.1.size w w'/\b<w'.1.size/\w'.cell? ⟨b,0,I⟩=G (F t0)))(f:∀V,E w.1.size w V->(al 44 mv (F t0) true).run J V=.ok (ao #[.agg #[F ⟨#[]⟩,ab],ap false]) V):ac J 19 #[Z (G ⟨S,0,I⟩),F line] w λr w'=>r=Bl 3/\E w.1.size w w':=by
 have h:=Aa e;have d:=Aa f;have s:(0:Int)<((m+1:Nat):Int):=O;have t:¬((m:Int)+1=0):=O;unfold Bl;clear e f;go_enter aj,ag;go_upto_region 4 with(go_at_call 46;go_must(refine h.o.mono ?_);rintro r w1 ⟨b,rfl,i⟩;refine Hid.out ?_;refine Aa ?_);obtain⟨a,q,n⟩:=i.o;have l:w1.cell? ⟨S,1,I⟩=G mv:=(a.cell (p:=⟨S,1,I⟩) c).trans k;have g:S<w1.1.size:=ad c a.4;have e1:=d.o w1 a;have e2:=d.o w1.drew a.drew;have u:=d.o (w1.alloc (ae #[F ⟨#[]⟩,ab] 59)).drew (a.alloc a.4 _).drew;have v:=d.o (w1.drew.alloc (ae #[F ⟨#[]⟩,ab] 59)) (a.drew.alloc a.4 _);have j:E w.1.size w (w1.alloc (ae #[F ⟨#[]⟩,ab] 59)):=a.alloc a.4 _;go_region;all_goals
  go_wp2;refine⟨rfl,rfl,?_⟩;repeat(with_reducible first|assumption|exact a.4|refine Below.drew ?_|refine Below.setCell (p:=⟨w1.heap.size,0,none⟩) ?_ a.size _|refine Below.setCell (p:=⟨w1.heap.size,1,none⟩) ?_ a.size _)
end
section
variable{S b m:Nat}{line t0:ByteArray}{w:af}{Q:af->Prop}{mv:am}
theorem Yy{f:FuncId}{form t:ByteArray}{P:am->af->Prop}{T:Nat->af->Prop}(hS:w.cell? ⟨S,1,I⟩=G mv)(j:S<w.1.size)(y:ac J 46 #[F line,aa (C 47) #[] #[]] w λr w'=>∃b,r=Y (ah (G ⟨b,0,I⟩) (m+1) (m+1))/\Hid (E w.1.size w w'/\b<w'.1.size/\w'.cell? ⟨b,0,I⟩=G (F t0)/\∀V,E w'.1.size w' V->T b V))(z:∀V,E w.1.size w V->(al 44 mv (F t0) true).run J V=.ok (ao #[.agg #[F form,aa (C f) #[Z (G ⟨S,0,I⟩)] #[]],ap true]) V)(hE:∀(v:am) (V:af),(callFunc f #[Z (G ⟨S,0,I⟩),v]).run J V=.ok (.enter f #[Z (G ⟨S,0,I⟩),v]) V)(D:∀b V,E w.1.size w V->Hid (T b V)->ac J 48 #[ah (G ⟨b,0,I⟩) (m+1) (m+1),F form] V λr w'=>∃v,r=Y v/\E V.1.size V w'/\Hid (P v w'))(hD:∀v V,E w.1.size w V->Hid (P v V)->ac J f #[Z (G ⟨S,0,I⟩),v] V λr w'=>r=Y (F t)/\Hid (Q w')):ac J 19 #[Z (G ⟨S,0,I⟩),F line] w λr w'=>r=Y (F t)/\Hid (Q w'):=by
 have s:=Aa y;have h:=Aa z;have a1:(0:Int)<((m+1:Nat):Int):=O;have a2:¬((m:Int)+1=0):=O;have HW:=Aa D;have N:=Aa hD;clear D hD;clear y z;go_enter aj,ag;go_upto_region 4 with(go_at_call 46;go_must(refine s.o.mono ?_);rintro r w1 ⟨b,rfl,x⟩;refine Hid.out ?_;refine Aa ?_);obtain⟨a,a0,q,B⟩:=x.o;have u:=Aa B;clear B x;have n:w1.cell? ⟨S,1,I⟩=G mv:=(a.cell (p:=⟨S,1,I⟩) j).trans hS;have A:S<w1.1.size:=ad j a.4;have e1:=h.o w1 a;have e2:=h.o w1.drew a.drew;have R:=h.o (w1.alloc (ae #[F ⟨#[]⟩,ab] 59)).drew (a.alloc a.4 _).drew;have U:=h.o (w1.drew.alloc (ae #[F ⟨#[]⟩,ab] 59)) (a.drew.alloc a.4 _);go_region;all_goals
  obtain⟨d,c⟩:∃d,(w1.alloc (ae #[F form,aa (C f) #[Z (G ⟨S,0,I⟩)] #[]] 59)).drew=d:=⟨_,rfl⟩;rw[c];have l:Blk d w1.1.size #[F form,aa (C f) #[Z (G ⟨S,0,I⟩)] #[]] 59:=by rw[<-c];exact Blk.new w1 _ 59
  have g:E w.1.size w d:=by rw[<-c];exact(a.alloc a.4 _).drew
  have i:E w1.1.size w1 d:=by rw[<-c];exact((Below.refl _ _).alloc (an _) _).drew
  have L:=l.cell 0;have M:=l.cell 1;simp at L M;have y0:d.drew.cell? ⟨w1.1.size,0,I⟩=G (F form):=L;have y1:d.drew.cell? ⟨w1.1.size,1,I⟩=G (aa (C f) #[Z (G ⟨S,0,I⟩)] #[]):=M;have k:Hid (ac J 48 #[ah (G ⟨b,0,I⟩) (m+1) (m+1),F form] d.drew λr w'=>∃v,r=Y v/\E w.1.size w w'/\Hid (P v w')/\w'.cell? ⟨w1.1.size,1,I⟩=G (aa (C f) #[Z (G ⟨S,0,I⟩)] #[])):=Aa ((HW.o b d.drew g.drew (Aa (u.o _ i.drew))).mono (λr w' ⟨v,q1,H,q3⟩=>⟨v,q1,Ab g.drew g.drew.4 H,q3,(H.cell (p:=⟨w1.1.size,1,I⟩) (ai.1 l).1).trans y1⟩));clear e1 e2 R U c HW u h s q n;go_upto_region 7 with fail;go_region_with(first|(go_at_call 48;refine ak k.o ?_;rintro e w4 ⟨v4,rfl,W,q4,z4⟩)|(with_reducible refine ak (N.o v4 w4 W q4) ?_;rintro e w5 ⟨rfl,X⟩));all_goals
   go_wp2;go_ret;exact⟨rfl,X⟩
end
section
variable{S b m:Nat}{line t0:ByteArray}{w:af}{Q:af->Prop}{mv:am}
theorem Oc{f:FuncId}{form:ByteArray}{e:Int}{P:am->af->Prop}{T:Nat->af->Prop}(X:w.cell? ⟨S,1,I⟩=G mv)(j:S<w.1.size)(y:ac J 46 #[F line,aa (C 47) #[] #[]] w λr w'=>∃b,r=Y (ah (G ⟨b,0,I⟩) (m+1) (m+1))/\Hid (E w.1.size w w'/\b<w'.1.size/\w'.cell? ⟨b,0,I⟩=G (F t0)/\∀V,E w'.1.size w' V->T b V))(z:∀V,E w.1.size w V->(al 44 mv (F t0) true).run J V=.ok (ao #[.agg #[F form,aa (C f) #[Z (G ⟨S,0,I⟩)] #[]],ap true]) V)(hE:∀(v:am) (V:af),(callFunc f #[Z (G ⟨S,0,I⟩),v]).run J V=.ok (.enter f #[Z (G ⟨S,0,I⟩),v]) V)(D:∀b V,E w.1.size w V->Hid (T b V)->ac J 48 #[ah (G ⟨b,0,I⟩) (m+1) (m+1),F form] V λr w'=>∃v,r=Y v/\E V.1.size V w'/\Hid (P v w'))(hD:∀v V,E w.1.size w V->Hid (P v V)->ac J f #[Z (G ⟨S,0,I⟩),v] V λr w'=>r=Bl e/\Hid (Q w')):ac J 19 #[Z (G ⟨S,0,I⟩),F line] w λr w'=>r=Bl e/\Hid (Q w'):=by
 have t:=Aa y;have h:=Aa z;have a1:(0:Int)<((m+1:Nat):Int):=O;have a2:¬((m:Int)+1=0):=O;have HW:=Aa D;have s:=Aa hD;unfold Bl at s⊢;clear D hD;clear y z;go_enter aj,ag;go_upto_region 4 with(go_at_call 46;go_must(refine t.o.mono ?_);rintro r w1 ⟨b,rfl,x⟩;refine Hid.out ?_;refine Aa ?_);obtain⟨a,a0,q,B⟩:=x.o;have u:=Aa B;clear B x;have n:w1.cell? ⟨S,1,I⟩=G mv:=(a.cell (p:=⟨S,1,I⟩) j).trans X;have A:S<w1.1.size:=ad j a.4;have e1:=h.o w1 a;have e2:=h.o w1.drew a.drew;have N:=h.o (w1.alloc (ae #[F ⟨#[]⟩,ab] 59)).drew (a.alloc a.4 _).drew;have R:=h.o (w1.drew.alloc (ae #[F ⟨#[]⟩,ab] 59)) (a.drew.alloc a.4 _);go_region;all_goals
  obtain⟨d,c⟩:∃d,(w1.alloc (ae #[F form,aa (C f) #[Z (G ⟨S,0,I⟩)] #[]] 59)).drew=d:=⟨_,rfl⟩;rw[c];have l:Blk d w1.1.size #[F form,aa (C f) #[Z (G ⟨S,0,I⟩)] #[]] 59:=by rw[<-c];exact Blk.new w1 _ 59
  have g:E w.1.size w d:=by rw[<-c];exact(a.alloc a.4 _).drew
  have i:E w1.1.size w1 d:=by rw[<-c];exact((Below.refl _ _).alloc (an _) _).drew
  have L:=l.cell 0;have M:=l.cell 1;simp at L M;have y0:d.drew.cell? ⟨w1.1.size,0,I⟩=G (F form):=L;have y1:d.drew.cell? ⟨w1.1.size,1,I⟩=G (aa (C f) #[Z (G ⟨S,0,I⟩)] #[]):=M;have k:Hid (ac J 48 #[ah (G ⟨b,0,I⟩) (m+1) (m+1),F form] d.drew λr w'=>∃v,r=Y v/\E w.1.size w w'/\Hid (P v w')/\w'.cell? ⟨w1.1.size,1,I⟩=G (aa (C f) #[Z (G ⟨S,0,I⟩)] #[])):=Aa ((HW.o b d.drew g.drew (Aa (u.o _ i.drew))).mono (λr w' ⟨v,q1,H,q3⟩=>⟨v,q1,Ab g.drew g.drew.4 H,q3,(H.cell (p:=⟨w1.1.size,1,I⟩) (ai.1 l).1).trans y1⟩));clear e1 e2 N R c HW u h t q n;go_upto_region 7 with fail;go_region_with(first|(go_at_call 48;refine ak k.o ?_;rintro e w4 ⟨v4,rfl,U,q4,z4⟩)|(refine ak (s.o v4 w4 U q4) (two_waysV (F ⟨#[]⟩) (λw5 W=>⟨rfl,rfl,W⟩) ?_);intro w5 hf));all_goals exact hf.o.elim
end
section
variable{S b m:Nat}{line t0:ByteArray}{w:af}{mv:am}
theorem P7{f:FuncId}{form:ByteArray}{T:Nat->af->Prop}(P:w.cell? ⟨S,1,I⟩=G mv)(j:S<w.1.size)(y:ac J 46 #[F line,aa (C 47) #[] #[]] w λr w'=>∃b,r=Y (ah (G ⟨b,0,I⟩) (m+1) (m+1))/\Hid (E w.1.size w w'/\b<w'.1.size/\w'.cell? ⟨b,0,I⟩=G (F t0)/\∀V,E w'.1.size w' V->T b V))(z:∀V,E w.1.size w V->(al 44 mv (F t0) true).run J V=.ok (ao #[.agg #[F form,aa (C f) #[Z (G ⟨S,0,I⟩)] #[]],ap true]) V)(D:∀b V,E w.1.size w V->Hid (T b V)->ac J 48 #[ah (G ⟨b,0,I⟩) (m+1) (m+1),F form] V λr w'=>r=Bl 3/\E V.1.size V w'):ac J 19 #[Z (G ⟨S,0,I⟩),F line] w λr w'=>r=Bl 3/\E w.1.size w w':=by
 have t:=Aa y;have h:=Aa z;have R:(0:Int)<((m+1:Nat):Int):=O;have U:¬((m:Int)+1=0):=O;have HW:=Aa D;unfold Bl at HW⊢;clear D y z;go_enter aj,ag;go_upto_region 4 with(go_at_call 46;go_must(refine t.o.mono ?_);rintro r w1 ⟨b,rfl,x⟩;refine Hid.out ?_;refine Aa ?_);obtain⟨a,Q,s,B⟩:=x.o;have u:=Aa B;clear B x;have n:w1.cell? ⟨S,1,I⟩=G mv:=(a.cell (p:=⟨S,1,I⟩) j).trans P;have A:S<w1.1.size:=ad j a.4;have e1:=h.o w1 a;have e2:=h.o w1.drew a.drew;have M:=h.o (w1.alloc (ae #[F ⟨#[]⟩,ab] 59)).drew (a.alloc a.4 _).drew;have N:=h.o (w1.drew.alloc (ae #[F ⟨#[]⟩,ab] 59)) (a.drew.alloc a.4 _);go_region;all_goals
  obtain⟨d,c⟩:∃d,(w1.alloc (ae #[F form,aa (C f) #[Z (G ⟨S,0,I⟩)] #[]] 59)).drew=d:=⟨_,rfl⟩;rw[c];have v:Blk d w1.1.size #[F form,aa (C f) #[Z (G ⟨S,0,I⟩)] #[]] 59:=by rw[<-c];exact Blk.new w1 _ 59
  have g:E w.1.size w d:=by rw[<-c];exact(a.alloc a.4 _).drew
  have i:E w1.1.size w1 d:=by rw[<-c];exact((Below.refl _ _).alloc (an _) _).drew
  have H:=v.cell 0;have L:=v.cell 1;simp at H L;have X:d.drew.cell? ⟨w1.1.size,0,I⟩=G (F form):=H;have y1:d.drew.cell? ⟨w1.1.size,1,I⟩=G (aa (C f) #[Z (G ⟨S,0,I⟩)] #[]):=L;have k:=Aa ((HW.o b d.drew g.drew (Aa (u.o _ i.drew))).mono (λr w' q=>And.intro q.1 (Ab g.drew g.drew.4 q.2)));clear e1 e2 M N c HW u h t s n;go_upto_region 7 with fail;refine wp_region_held_drew (S:=λV=>V.cell? ⟨w1.1.size,0,I⟩=G (F form)/\V.cell? ⟨w1.1.size,1,I⟩=G (aa (C f) #[Z (G ⟨S,0,I⟩)] #[])) K ⟨X,y1⟩ (λhHeld=>?_);refine tk 0 27 (Z (G ⟨w1.1.size,1,I⟩)) ?_;refine tr 1 28 (aa (C f) #[Z (G ⟨S,0,I⟩)] #[]) ?_ ?_
  ·rintro W ⟨z0,z1⟩;go_simp
  refine tk 2 29 (ah (G ⟨b,0,I⟩) (m+1) (m+1)) ?_;refine tk 3 30 (Z (G ⟨w1.1.size,0,I⟩)) ?_;refine tr 4 31 (F form) ?_ ?_
  ·rintro W ⟨z0,z1⟩;go_simp
  refine wpAnyH_ready (rs:=[5]) K oS ?_;refine AllReadyH.cons rfl (λK hK=>?_) AllReadyH.nil;go_simp;refine ak k.o ?_;rintro e w5 ⟨rfl,l⟩;exact⟨rfl,rfl,l⟩
end
end
end Go.Proofs.YtkkallehdijiaaaGreatDoor
