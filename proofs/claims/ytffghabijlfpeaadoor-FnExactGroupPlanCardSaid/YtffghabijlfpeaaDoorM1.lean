/- What the program answers, as plain mathematics: M1. No conditions. -/
set_option linter.unusedSectionVars false
set_option linter.unusedVariables false
set_option linter.unusedSimpArgs false
namespace Md
abbrev T:=Int×Int
def tOk (t:T):Bool:=decide (1≤t.1∧t.1≤9) && decide (1≤t.2∧t.2≤5)
def nOk (n:Int):Bool:=decide (1≤n∧n≤5)
def tsOk (ts:List T):Bool:=nOk ts.length && ts.all tOk
def stOk (n s:Int):Bool:=nOk n && decide (0≤s∧s < 2 ^ n.toNat)
def wt:List T→Int→Int
 | [], _=>1
 | t :: r, s=>(if s % 2=1 then t.2 else 6 - t.2) * wt r (s / 2)
def wtOf (ts:List T) (s:Int):Int:=if tsOk ts && stOk ts.length s then wt ts s else -1
def other (t:T):T:=(t.1, 6 - t.2)
def others (ts:List T):List T:=if tsOk ts then ts.map other else []
def kOk (k:Int):Bool:=decide (-1≤k∧k≤1)
def ksOk (n:Int) (ks:List Int):Bool:=nOk n && decide ((ks.length:Int)=n) && ks.all kOk
def ag:List Int→Int→Bool
 | [], _=>true
 | k :: r, s=>(k == -1 || k == s % 2) && ag r (s / 2)
def agOk (n:Int) (ks:List Int) (s:Int):Bool:=ksOk n ks && stOk n s && ag ks s
def sumTo (f:Nat→Int):Nat→Int
 | 0=>0
 | n+1=>sumTo f n+f n
def ww (ts:List T) (ks:List Int):Int:=if tsOk ts && ksOk ts.length ks then sumTo (fun s=>if ag ks s then wt ts s else 0) (2 ^ ts.length) else -1
def cost:List T→Int
 | []=>0
 | t :: r=>t.1+cost r
def costOf (ts:List T):Int:=if tsOk ts then cost ts else -1
/-- the first greatest of f below n+1 -/
def best (f:Nat→Int):Nat→Nat
 | 0=>0
 | n+1=>if f (n+1) > f (best f n) then n+1 else best f n
def likeliest (ts:List T):Int:=if tsOk ts then best (fun s=>wt ts s) (2 ^ ts.length - 1) else -1

theorem wt_bound:∀ {ts:List T}, (ts.all tOk)=true→∀ s, 1≤wt ts s∧wt ts s≤6 ^ ts.length
 | [], _, s=>by simp [wt]
 | t :: r, h, s=>by
  simp only [List.all_cons, Bool.and_eq_true] at h
  obtain ⟨h1, h2⟩:=wt_bound h.2 (s / 2)
  have ht:1≤t.2∧t.2≤5:=by simp [tOk] at h; omega
  simp only [wt, List.length_cons, Int.pow_succ]
  have hc:∃ c:Int, (if s % 2=1 then t.2 else 6 - t.2)=c∧1≤c∧c≤6:=⟨_, rfl, by split <;> omega, by split <;> omega⟩
  obtain ⟨c, hc, c1, c2⟩:=hc
  rw [hc]
  refine ⟨?_, ?_⟩
  ·have:=Int.mul_le_mul c1 h1 (by omega) (by omega); omega
  ·have:=Int.mul_le_mul c2 h2 (by omega) (by omega); rw [Int.mul_comm (6 ^ r.length) 6]; exact this
theorem pow_le {n m:Nat} (h:n≤m) (b:Nat) (hb:0 < b):(b:Int) ^ n≤(b:Int) ^ m:=by
 have:=Nat.pow_le_pow_right hb h
 exact_mod_cast this
theorem wt_le {ts:List T} (h:ts.all tOk=true) (hl:ts.length≤5) (s:Int):1≤wt ts s∧wt ts s≤7776:=by
 obtain ⟨h1, h2⟩:=wt_bound h s
 have:=pow_le hl 6 (by omega)
 simp at this
 omega

theorem sumTo_double (f:Nat→Int):∀ n, sumTo f (2 * n)=sumTo (fun q=>f (2 * q)+f (2 * q+1)) n
 | 0=>rfl
 | n+1=>by
  rw [show 2 * (n+1)=2 * n+1+1 by omega]
  simp only [sumTo]
  rw [sumTo_double f n]; omega
theorem sumTo_congr {f g:Nat→Int}:∀ {n}, (∀ k, k < n→f k=g k)→sumTo f n=sumTo g n
 | 0, _=>rfl
 | n+1, h=>by simp only [sumTo]; rw [sumTo_congr (fun k hk=>h k (by omega)), h n (by omega)]
theorem sumTo_mul (c:Int) (f:Nat→Int):∀ n, sumTo (fun k=>c * f k) n=c * sumTo f n
 | 0=>by simp [sumTo]
 | n+1=>by simp only [sumTo]; rw [sumTo_mul c f n, Int.mul_add]
theorem wt_two (t:T) (r:List T) (q:Nat):wt (t :: r) ((2 * q:Nat):Int)=(6 - t.2) * wt r q∧wt (t :: r) ((2 * q+1:Nat):Int)=t.2 * wt r q:=by
 constructor
 ·simp only [wt]
  rw [if_neg (by omega), show ((2 * q:Nat):Int) / 2=q by omega]
 ·simp only [wt]
  rw [if_pos (by omega), show ((2 * q+1:Nat):Int) / 2=q by omega]
theorem wt_sum:∀ ts:List T, sumTo (fun s=>wt ts s) (2 ^ ts.length)=6 ^ ts.length
 | []=>by simp [sumTo, wt]
 | t :: r=>by
  rw [List.length_cons, Nat.pow_succ, Nat.mul_comm, sumTo_double]
  rw [sumTo_congr (g:=fun q=>6 * wt r q) (fun q _=>by
   obtain ⟨h1, h2⟩:=wt_two t r q
   simp only [h1, h2]
   rw [← Int.add_mul]; congr 1; omega)]
  rw [sumTo_mul, wt_sum r, Int.pow_succ, Int.mul_comm]
theorem two_pow_pos (n:Nat):(1:Int)≤2 ^ n:=by
 have:0 < 2 ^ n:=Nat.pow_pos (by omega)
 exact_mod_cast this
theorem wt_other:∀ (ts:List T) (s:Int), 0≤s→s < 2 ^ ts.length→wt (ts.map other) (2 ^ ts.length - 1 - s)=wt ts s
 | [], s, _, _=>by simp [wt]
 | t :: r, s, h0, h1=>by
  have hp:=two_pow_pos r.length
  simp only [List.length_cons, Int.pow_succ] at h1 ⊢
  simp only [List.map_cons, wt, other]
  have e:(2 ^ r.length * 2 - 1 - s) / 2=2 ^ r.length - 1 - s / 2:=by omega
  rw [e, wt_other r (s / 2) (by omega) (by omega)]
  congr 1
  by_cases h:s % 2=1
  ·rw [if_neg (by omega), if_pos h]; omega
  ·rw [if_pos (by omega), if_neg h]
theorem tOk_iff {t:T}:tOk t=true↔(1≤t.1∧t.1≤9)∧1≤t.2∧t.2≤5:=by simp [tOk]
theorem other_ok {t:T} (h:tOk t=true):tOk (other t)=true:=by
 rw [tOk_iff] at *
 have e1:(other t).1=t.1:=rfl
 have e2:(other t).2=6 - t.2:=rfl
 rw [e1, e2]; omega
theorem others_ok {ts:List T} (h:tsOk ts=true):tsOk (ts.map other)=true:=by
 simp only [tsOk, Bool.and_eq_true, List.length_map, List.all_eq_true, List.mem_map] at *
 refine ⟨h.1, ?_⟩
 rintro _ ⟨t, ht, rfl⟩
 exact other_ok (h.2 t ht)
theorem other_other (ts:List T):(ts.map other).map other=ts:=by
 rw [List.map_map]
 conv=>rhs; rw [← List.map_id ts]
 apply List.map_congr_left
 intro t _
 simp only [Function.comp, other, id]
 exact Prod.ext rfl (by simp only; omega)
theorem cost_other:∀ ts:List T, cost (ts.map other)=cost ts
 | []=>rfl
 | t :: r=>by simp [cost, other, cost_other r]
theorem cost_bound:∀ {ts:List T}, ts.all tOk=true→(ts.length:Int)≤cost ts∧cost ts≤9 * ts.length
 | [], _=>by simp [cost]
 | t :: r, h=>by
  simp only [List.all_cons, Bool.and_eq_true] at h
  have:=cost_bound h.2
  have ht:1≤t.1∧t.1≤9:=by simp [tOk] at h; omega
  simp only [cost, List.length_cons]; omega
theorem cost_append:∀ a b:List T, cost (a++b)=cost a+cost b
 | [], b=>by simp [cost]
 | t :: r, b=>by simp only [List.cons_append, cost, cost_append r b]; omega

/-! ### what is known -/
theorem ag_two (k:Int) (r:List Int) (q:Nat):ag (k :: r) ((2 * q:Nat):Int)=((k == -1 || k == 0) && ag r q)∧ag (k :: r) ((2 * q+1:Nat):Int)=((k == -1 || k == 1) && ag r q):=by
 constructor
 ·simp only [ag]
  rw [show ((2 * q:Nat):Int) / 2=q by omega, show ((2 * q:Nat):Int) % 2=0 by omega]
 ·simp only [ag]
  rw [show ((2 * q+1:Nat):Int) / 2=q by omega, show ((2 * q+1:Nat):Int) % 2=1 by omega]
/-- the weight of what is known, as a product -/
def wk:List T→List Int→Int
 | t :: r, k :: ks=>(if k=-1 then 6 else if k=1 then t.2 else 6 - t.2) * wk r ks
 | _, _=>1
def wa (ts:List T) (ks:List Int):Int:=sumTo (fun s=>if ag ks s then wt ts s else 0) (2 ^ ts.length)
theorem wa_wk:∀ {ts:List T} {ks:List Int}, ks.length=ts.length→ks.all kOk=true→wa ts ks=wk ts ks
 | [], [], _, _=>by simp [wa, wk, sumTo, ag, wt]
 | t :: r, k :: ks, hl, h=>by
  simp only [List.all_cons, Bool.and_eq_true] at h
  have hk:-1≤k∧k≤1:=by simpa [kOk] using h.1
  have ih:=wa_wk (ts:=r) (ks:=ks) (by simpa using hl) h.2
  unfold wa at *
  rw [List.length_cons, Nat.pow_succ, Nat.mul_comm, sumTo_double]
  rw [sumTo_congr (g:=fun q=>(if k=-1 then 6 else if k=1 then t.2 else 6 - t.2) * (if ag ks q then wt r q else 0)) (fun q _=>by
   obtain ⟨h1, h2⟩:=wt_two t r q
   obtain ⟨h3, h4⟩:=ag_two k ks q
   simp only [h1, h2, h3, h4]
   have hk3:k=-1∨k=0∨k=1:=by omega
   rcases hk3 with rfl | rfl | rfl
   ·by_cases ha:ag ks q=true
    ·simp [ha]; rw [← Int.add_mul]; congr 1; omega
    ·simp [ha]
   ·by_cases ha:ag ks q=true <;> simp [ha]
   ·by_cases ha:ag ks q=true <;> simp [ha])]
  rw [sumTo_mul, ih, wk]
theorem wk_bound:∀ {ts:List T} {ks:List Int}, ts.all tOk=true→1≤wk ts ks∧wk ts ks≤6 ^ ts.length
 | [], [], _=>by simp [wk]
 | [], _ :: _, _=>by simp [wk]
 | t :: r, [], _=>by simp only [wk]; exact ⟨by omega, by have:=pow_le (Nat.zero_le (t :: r).length) 6 (by omega); simpa using this⟩
 | t :: r, k :: ks, h=>by
  simp only [List.all_cons, Bool.and_eq_true] at h
  obtain ⟨h1, h2⟩:=wk_bound (ks:=ks) h.2
  have ht:1≤t.2∧t.2≤5:=by simp [tOk] at h; omega
  simp only [wk, List.length_cons, Int.pow_succ]
  have hc:∃ c:Int, (if k=-1 then 6 else if k=1 then t.2 else 6 - t.2)=c∧1≤c∧c≤6:=⟨_, rfl, by split <;> (try split) <;> omega, by split <;> (try split) <;> omega⟩
  obtain ⟨c, hc, c1, c2⟩:=hc
  rw [hc]
  refine ⟨?_, ?_⟩
  ·have:=Int.mul_le_mul c1 h1 (by omega) (by omega); omega
  ·have:=Int.mul_le_mul c2 h2 (by omega) (by omega); rw [Int.mul_comm (6 ^ r.length) 6]; exact this
/-- the weight where the first test is not known -/
theorem wk_parts (t:T) (r:List T) (ks:List Int):wk (t :: r) (0 :: ks)+wk (t :: r) (1 :: ks)=wk (t :: r) (-1 :: ks):=by
 show (6 - t.2) * wk r ks+t.2 * wk r ks=6 * wk r ks
 rw [← Int.add_mul]
 congr 1; omega
/-- how many agree -/
def na (n:Nat) (ks:List Int):Int:=sumTo (fun s=>if ag ks s then 1 else 0) (2 ^ n)
def unk:List Int→Int
 | []=>0
 | k :: r=>(if k=-1 then 1 else 0)+unk r
theorem unk_bound:∀ ks, 0≤unk ks∧unk ks≤ks.length
 | []=>by simp [unk]
 | k :: r=>by have:=unk_bound r; simp only [unk, List.length_cons]; split <;> omega
theorem na_unk:∀ {ks:List Int}, ks.all kOk=true→na ks.length ks=2 ^ (unk ks).toNat
 | [], _=>by simp [na, sumTo, ag, unk]
 | k :: ks, h=>by
  simp only [List.all_cons, Bool.and_eq_true] at h
  have hk:-1≤k∧k≤1:=by simpa [kOk] using h.1
  have ih:=na_unk h.2
  have ub:=unk_bound ks
  unfold na at *
  rw [List.length_cons, Nat.pow_succ, Nat.mul_comm, sumTo_double]
  rw [sumTo_congr (g:=fun q=>(if k=-1 then 2 else 1) * (if ag ks q then 1 else 0)) (fun q _=>by
   obtain ⟨h3, h4⟩:=ag_two k ks q
   simp only [h3, h4]
   have hk3:k=-1∨k=0∨k=1:=by omega
   rcases hk3 with rfl | rfl | rfl
   ·by_cases ha:ag ks q=true <;> simp [ha]
   ·by_cases ha:ag ks q=true <;> simp [ha]
   ·by_cases ha:ag ks q=true <;> simp [ha])]
  rw [sumTo_mul, ih, unk]
  by_cases e:k=-1
  ·rw [if_pos e, if_pos e, show (1+unk ks).toNat=(unk ks).toNat+1 by omega, Int.pow_succ]; omega
  ·rw [if_neg e, if_neg e]; simp
/-! ### the likeliest state -/
def pref:List T→Nat
 | []=>0
 | t :: r=>(if 2 * t.2 > 6 then 1 else 0)+2 * pref r
theorem pref_lt:∀ ts:List T, pref ts < 2 ^ ts.length
 | []=>by simp [pref]
 | t :: r=>by have:=pref_lt r; simp only [pref, List.length_cons, Nat.pow_succ]; split <;> omega
theorem wt_pref:∀ {ts:List T}, ts.all tOk=true→∀ s:Nat, wt ts s≤wt ts (pref ts)∧(s < pref ts→wt ts s < wt ts (pref ts))
 | [], _, s=>by simp [wt, pref]
 | t :: r, h, s=>by
  simp only [List.all_cons, Bool.and_eq_true] at h
  have ht:1≤t.2∧t.2≤5:=by have:=h.1; simp only [tOk, Bool.and_eq_true, decide_eq_true_eq] at this; omega
  obtain ⟨i1, i2⟩:=wt_pref h.2 (s / 2)
  have b1:=wt_bound h.2 ((s / 2:Nat):Int)
  have b2:=wt_bound h.2 ((pref r:Nat):Int)
  have es:((s:Nat):Int) / 2=((s / 2:Nat):Int):=by omega
  have hP:pref (t :: r)=(if 2 * t.2 > 6 then 1 else 0)+2 * pref r:=rfl
  generalize pref (t :: r)=u at hP ⊢
  simp only [wt]
  rw [es]
  have ep:((u:Nat):Int) / 2=((pref r:Nat):Int):=by rw [hP]; split <;> omega
  rw [ep]
  generalize wt r ((s / 2:Nat):Int)=x at *
  generalize wt r ((pref r:Nat):Int)=y at *
  have hx:∃ c:Int, (if ((s:Nat):Int) % 2=1 then t.2 else 6 - t.2)=c∧1≤c∧(c=t.2∧s % 2=1∨c=6 - t.2∧s % 2=0):=by
   by_cases e:s % 2=1
   ·exact ⟨_, if_pos (by omega), by omega, .inl ⟨rfl, e⟩⟩
   ·exact ⟨_, if_neg (by omega), by omega, .inr ⟨rfl, by omega⟩⟩
  have hy:∃ d:Int, (if ((u:Nat):Int) % 2=1 then t.2 else 6 - t.2)=d∧1≤d∧(2 * t.2 > 6∧d=t.2∨2 * t.2≤6∧d=6 - t.2):=by
   by_cases e:2 * t.2 > 6
   ·rw [if_pos e] at hP; exact ⟨_, if_pos (by omega), by omega, .inl ⟨e, rfl⟩⟩
   ·rw [if_neg e] at hP; exact ⟨_, if_neg (by omega), by omega, .inr ⟨by omega, rfl⟩⟩
  obtain ⟨c, hc, c1, c2⟩:=hx
  obtain ⟨d, hd, d1, d2⟩:=hy
  rw [hc, hd]
  have cd:c≤d:=by omega
  refine ⟨Int.mul_le_mul cd i1 (by omega) (by omega), fun hs=>?_⟩
  have hq:s / 2 < pref r∨s / 2=pref r∧c < d:=by
   by_cases e:2 * t.2 > 6
   ·rw [if_pos e] at hP; omega
   ·rw [if_neg e] at hP; omega
  rcases hq with hq | ⟨hq, hcd⟩
  ·have h1:c * x≤d * x:=Int.mul_le_mul cd (Int.le_refl x) (by omega) (by omega)
   have h2:d * x < d * y:=Int.mul_lt_mul_of_pos_left (i2 hq) (by omega)
   omega
  ·have h1:c * x < d * x:=Int.mul_lt_mul_of_pos_right hcd (by omega)
   have h2:d * x≤d * y:=Int.mul_le_mul (Int.le_refl d) i1 (by omega) (by omega)
   omega
theorem best_le (f:Nat→Int):∀ n, best f n≤n∧(∀ k, k≤n→f k≤f (best f n))∧∀ k, k < best f n→f k < f (best f n)
 | 0=>by simp [best]
 | n+1=>by
  obtain ⟨h1, h2, h3⟩:=best_le f n
  simp only [best]
  split
  ·refine ⟨by omega, fun k hk=>?_, fun k hk=>?_⟩
   ·by_cases e:k=n+1
    ·rw [e]; omega
    ·have:=h2 k (by omega); omega
   ·have:=h2 k (by omega); omega
  ·refine ⟨by omega, fun k hk=>?_, h3⟩
   by_cases e:k=n+1
   ·rw [e]; omega
   ·exact h2 k (by omega)
theorem best_pref {ts:List T} (h:ts.all tOk=true):best (fun s=>wt ts s) (2 ^ ts.length - 1)=pref ts:=by
 obtain ⟨h1, h2, h3⟩:=best_le (fun s=>wt ts s) (2 ^ ts.length - 1)
 have hp:=pref_lt ts
 have a:=h2 (pref ts) (by omega)
 obtain ⟨b1, b2⟩:=wt_pref h (best (fun s=>wt ts s) (2 ^ ts.length - 1))
 by_cases e1:best (fun s=>wt ts s) (2 ^ ts.length - 1) < pref ts
 ·have:=b2 e1; omega
 ·by_cases e2:pref ts < best (fun s=>wt ts s) (2 ^ ts.length - 1)
  ·have:=h3 _ e2; omega
  ·omega
end Md
