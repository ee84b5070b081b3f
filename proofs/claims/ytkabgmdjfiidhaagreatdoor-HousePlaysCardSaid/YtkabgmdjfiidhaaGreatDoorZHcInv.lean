import Derived.Test.YtkabgmdjfiidhaaGreatDoorZHpRange
import Derived.Test.YtkabgmdjfiidhaaGreatDoorZHcMap
set_option linter.all false
open Go.Lib renaming itoa->F,hasSuffix->Z
namespace Go.Proofs.YtkabgmdjfiidhaaGreatDoor
open Go.RowKit Go.Maps
theorem Sg(c:Ch):∃l,c.text=l++[10]/\l=F c.1++58::(c.2.1.1.1++58::(c.2.2.1.1++58::(F c.2.3++58::(F c.3++58::(BD c.4++58::(AH c.5++58::(AH c.6++58::(AH c.7++[58])))))))):=⟨_,by simp[Ch.text],rfl⟩
theorem Ra(c:Ch)(h:c.ok){l:List UInt8}(f:l=F c.1++58::(c.2.1.1.1++58::(c.2.2.1.1++58::(F c.2.3++58::(F c.3++58::(BD c.4++58::(AH c.5++58::(AH c.6++58::(AH c.7++[58]))))))))):∀x∈l,x≠10:=by
 intro x hx e;subst e;subst f;have d:∀n:Int,-1<=n->(10:UInt8)∉F n:=λn i hx=>(Ct n i 10 hx).2.1 rfl;have i2:(10:UInt8)∉c.2.1.1.1:=λhx=>(h.2 10 hx).2 rfl;have i3:(10:UInt8)∉c.2.2.1.1:=λhx=>(h.3 10 hx).2 rfl;have i4:(10:UInt8)∉BD c.4:=λhx=>(ED c.4 (λz j=>(h.7 z j).1) 10 hx).2.1 rfl;have i5:∀b:List Mg,(∀m∈b,right m=true)->(10:UInt8)∉AH b:=λb g hx=>(EM b g 10 hx).2 rfl;have a:(10:UInt8)≠58:=oD;simp only[List.mem_append,List.mem_cons]at hx;rcases hx with hx|hx|hx|hx|hx|hx|hx|hx|hx|hx|hx|hx|hx|hx|hx|hx|hx|hx
 ·exact d _ (by have:=h.1;omega) hx
 ·exact a hx
 ·exact i2 hx
 ·exact a hx
 ·exact i3 hx
 ·exact a hx
 ·exact d _ h.5.1 hx
 ·exact a hx
 ·exact d _ (by have:=h.6;omega) hx
 ·exact a hx
 ·exact i4 hx
 ·exact a hx
 ·exact i5 _ h.9.1 hx
 ·exact a hx
 ·exact i5 _ h.9.2.1 hx
 ·exact a hx
 ·exact i5 _ h.9.2.2 hx
 ·rcases hx with hx|hx
  ·exact a hx
  ·cases hx
theorem Sh(c:Ch)(h:c.ok)(torn:Int):(EP (bs c.text) torn).size<=1000000/\Z (EP (bs c.text) torn).1.1 [10]=false:=by
 obtain⟨l,e,g⟩:=Sg c;have i:=Ra c h g;have b:=Gr c h;have a:(EP (bs c.text) torn).1.1=c.text.take (min torn ((c.text.length:Int)-1)).toNat:=by unfold EP;rw[F3];simp[bs,ByteArray.data_extract]
 constructor
 ·have f:(EP (bs c.text) torn).size=(EP (bs c.text) torn).1.1.length:=by rw[Array.length_toList];rfl
  rw[f,a,List.length_take];omega
 ·cases hb:Z (EP (bs c.text) torn).1.1 [10]with
  |false=>rfl
  |true=>exfalso;unfold Z at hb;rw[List.isSuffixOf_iff_suffix,a,e]at hb;have d:(10:UInt8)∈(l++[10]).take (min torn (((l++[10]).length:Int)-1)).toNat:=hb.subset (List.mem_singleton.2 rfl);rw[List.take_append_of_le_length (by rw[List.length_append,List.length_singleton];omega)]at d;exact i 10 (List.mem_of_mem_take d) rfl
def Ha(pu:Nat->List Mg):Nat:=(pu 0).length+(pu 1).length+(pu 2).length+(pu 3).length+(pu 4).length
theorem Y3(pu:Nat->List Mg){u:Nat}(a:u<5):(pu u).length<=Ha pu:=by
 unfold Ha;match u,a with
 |0,_=>omega
 |1,_=>omega
 |2,_=>omega
 |3,_=>omega
 |4,_=>omega
theorem JK(pu:Nat->List Mg){u:Nat}(a:u<5)(l:List Mg):Ha (Ae pu u l)+(pu u).length=Ha pu+l.length:=by
 unfold Ha Ae;match u,a with
 |0,_=>simp;omega
 |1,_=>simp;omega
 |2,_=>simp;omega
 |3,_=>simp;omega
 |4,_=>simp;omega
end Go.Proofs.YtkabgmdjfiidhaaGreatDoor
