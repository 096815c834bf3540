/- What the functions answer, as equations: E0. No conditions. -/
import Derived.Test.YtffghabijlfpeaaDoorLgD
import Derived.Test.YtffghabijlfpeaaDoorM1
set_option linter.unusedSectionVars false
set_option linter.unusedVariables false
set_option linter.unusedSimpArgs false
namespace Zz
open Go.Lg
variable [GL]
theorem wr_id {n:Int} (h1:-9223372036854775808≤n) (h2:n≤9223372036854775807):wr n=n:=by
 unfold wr Go.IntKind.wrap; simp [Go.IntKind.bits, Go.IntKind.signed]; omega
theorem stp {es xs:List DV} {x:DV} {k n:Int} (h0:0≤k) (hn:k+((x :: xs).length:Nat)=n) (hb:n < 1099511627776) (hd:es.drop k.toNat=x :: xs) :
  k < n∧atI es k=some x∧wr (k+1)=k+1∧0≤k+1∧k+1+(xs.length:Nat)=n∧es.drop (k+1).toNat=xs:=by
 simp only [List.length_cons] at hn
 refine ⟨by omega, ?_, wr_id (by omega) (by omega), by omega, by omega, ?_⟩
 ·have:=congrArg (fun l=>l[0]?) hd
  simp only [atI, if_pos h0]
  simpa using this
 ·have:=congrArg (fun l=>l.drop 1) hd
  simp only [List.drop_drop, List.drop_succ_cons, List.drop_zero] at this
  rw [show (k+1).toNat=k.toNat+1 by omega]
  exact this
theorem tOk_def (t:Md.T):Md.tOk t=(decide (1≤t.1∧t.1≤9) && decide (1≤t.2∧t.2≤5)):=rfl
theorem bit_and (a:Int):andI a 1=a % 2:=by
 show wr ((BitVec.ofInt 64 a &&& 1#64).toNat)=a % 2
 have h:(BitVec.ofInt 64 a &&& 1#64).toNat=(a % 2).toNat:=by
  simp only [BitVec.toNat_and, BitVec.toNat_ofInt]
  have:(1#64).toNat=2 ^ 1 - 1:=rfl
  rw [this, Nat.and_two_pow_sub_one_eq_mod]
  omega
 rw [h, wr_id (by omega) (by omega)]; omega
theorem pow2_le {k:Int} (h0:0≤k) (h5:k≤40):(1:Int)≤2 ^ k.toNat∧(2:Int) ^ k.toNat≤1099511627776:=by
 refine ⟨Md.two_pow_pos _, ?_⟩
 have:=Md.pow_le (n:=k.toNat) (m:=40) (by omega) 2 (by omega)
 simpa using this
theorem shl1 {k:Int} (h0:0≤k) (h5:k≤40):shlI 1 k=2 ^ k.toNat:=by
 unfold shlI
 rw [Int.one_mul]
 have:=pow2_le h0 h5
 rw [show min k.toNat 64=k.toNat by omega]
 exact wr_id (by omega) (by omega)
theorem shr1 {a k:Int} (h0:0≤k) (h5:k≤60):shrI a k=a / 2 ^ k.toNat:=by
 unfold shrI
 rw [show min k.toNat 64=k.toNat by omega, Int.fdiv_eq_ediv_of_nonneg]
 exact Int.le_of_lt (Int.pow_pos (by omega))
theorem tmod2 {a:Int} (h:0≤a):a.tmod 2=a % 2:=Int.tmod_eq_emod_of_nonneg h
theorem div_pow_nonneg {s:Int} (h:0≤s) (k:Nat):0≤s / 2 ^ k:=Int.ediv_nonneg h (Int.le_of_lt (Int.pow_pos (by omega)))
theorem div_pow_succ (s:Int) {k:Int} (h:0≤k):s / 2 ^ (k+1).toNat=s / 2 ^ k.toNat / 2:=by
 rw [show (k+1).toNat=k.toNat+1 by omega, Int.pow_succ, Int.ediv_ediv_of_nonneg (Int.le_of_lt (Int.pow_pos (by omega)))]
end Zz
namespace Zz
open Go.Lg
variable [GL]
theorem lend_e2 (ts:List (Int×Int)):lendL (ts.map e2)=ts.map e2:=by
 rw [lendL_map, List.map_map]; rfl
theorem lend_i (ts:List Int):lendL (ts.map .i)=ts.map .i:=by
 rw [lendL_map, List.map_map]; rfl
theorem lend_y (ts:List Nat):lendL (ts.map .y)=ts.map .y:=by
 rw [lendL_map, List.map_map]; rfl
theorem adopt_e2 (o:Bool) (ts:List (Int×Int)):adoptL o (ts.map e2)=ts.map e2:=by
 rw [adoptL_map, List.map_map]; rfl
theorem adopt_i (o:Bool) (ts:List Int):adoptL o (ts.map .i)=ts.map .i:=by
 rw [adoptL_map, List.map_map]; rfl
theorem adopt_y (o:Bool) (ts:List Nat):adoptL o (ts.map .y)=ts.map .y:=by
 rw [adoptL_map, List.map_map]; rfl
theorem new_e2 (ts:List (Int×Int)):allNewL (ts.map e2)=true:=by
 rw [allNewL_all, List.all_map, List.all_eq_true]; intro x _; rfl
theorem new_i (ts:List Int):allNewL (ts.map .i)=true:=by
 rw [allNewL_all, List.all_map, List.all_eq_true]; intro x _; rfl
theorem mulw {a c k:Int} (h1:1≤a) (h2:a≤6 ^ k.toNat) (c1:1≤c) (c2:c≤6) (h0:0≤k) (h5:k < 5):wr (a * c)=a * c∧1≤a * c∧a * c≤6 ^ (k+1).toNat:=by
 have e1:a * c≤6 ^ k.toNat * 6:=Int.mul_le_mul h2 c2 (by omega) (by omega)
 have e2:1≤a * c:=by have:=Int.mul_le_mul h1 c1 (by omega) (by omega); omega
 have e3:(6:Int) ^ k.toNat≤6 ^ 4:=Md.pow_le (by omega) 6 (by omega)
 refine ⟨wr_id (by omega) (by omega), e2, ?_⟩
 rw [show (k+1).toNat=k.toNat+1 by omega, Int.pow_succ]
 exact e1
theorem tk_e2 (ts:List (Int×Int)):List.take ts.length (ts.map e2)=ts.map e2:=List.take_of_length_le (by simp)
theorem tk_i (ts:List Int):List.take ts.length (ts.map DV.i)=ts.map .i:=List.take_of_length_le (by simp)
theorem tk_y (ts:List Nat):List.take ts.length (ts.map DV.y)=ts.map .y:=List.take_of_length_le (by simp)
theorem lt_e2 (n:Nat) (ts:List (Int×Int)):lendL (List.take n (ts.map e2))=List.take n (ts.map e2):=by rw [← List.map_take, lend_e2]
theorem lt_i (n:Nat) (ts:List Int):lendL (List.take n (ts.map .i))=List.take n (ts.map .i):=by rw [← List.map_take, lend_i]
theorem lt_y (n:Nat) (ts:List Nat):lendL (List.take n (ts.map .y))=List.take n (ts.map .y):=by rw [← List.map_take, lend_y]
theorem lend_rep (n:Nat) (c:Int):lendL (List.replicate n (.i c))=List.replicate n (.i c):=by rw [lendL_map, List.map_replicate]; rfl
theorem lend_app (a b:List DV):lendL (a++b)=lendL a++lendL b:=by rw [lendL_map, lendL_map, lendL_map, List.map_append]
theorem adopt_app (o:Bool) (a b:List DV):adoptL o (a++b)=adoptL o a++adoptL o b:=by rw [adoptL_map, adoptL_map, adoptL_map, List.map_append]
theorem al_e2 (ts:List (Int×Int)):allOldL (ts.map e2)=true:=by
 rw [allOldL_all, List.all_map, List.all_eq_true]; intro x _; rfl
theorem al_is (ts:List Int):allOldL (ts.map .i)=true:=by
 rw [allOldL_all, List.all_map, List.all_eq_true]; intro x _; rfl
theorem al_ys (ts:List Nat):allOldL (ts.map .y)=true:=by
 rw [allOldL_all, List.all_map, List.all_eq_true]; intro x _; rfl
theorem al_rep (n:Nat) (c:Int):allOldL (List.replicate n (.i c))=true:=by
 rw [allOldL_all, List.all_eq_true]; intro x hx; rw [List.eq_of_mem_replicate hx]; rfl
theorem al_app (a b:List DV):allOldL (a++b)=(allOldL a && allOldL b):=by rw [allOldL_all, allOldL_all, allOldL_all, List.all_append]
theorem new_app (a b:List DV):allNewL (a++b)=(allNewL a && allNewL b):=by rw [allNewL_all, allNewL_all, allNewL_all, List.all_append]
end Zz
