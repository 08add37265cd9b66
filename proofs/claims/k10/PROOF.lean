import PyProof.Rows.All
import Wide.All
import OpenK.AllK
import Wide.FinOn
import PySem.PyData
import HandS.ForMost
import HandS.ForList
import HandS.Zip
import HandS.Conv
import HandS.RevRange
import HandS.Deep
import HandS.Walk
import KE.GoesMore
import HandS.TupAny
import HandS.TupMul
import PyProof.WalkInts
import PyProof.SumWalkG
import PyProof.Rows.SumAny
import KE.DataMinMax
import KE.SortData
import HandS.SortRule
import HandS.Sort
import HandS.SortKw
import PySem.Challenge.RW_faultdue_k10_best_of_all
/-! Budgets as plain lists: chains of parents, what is used, what fits. -/
namespace Fd
structure Bd where
  nm : PySem.Str
  cap : Int
  par : Int

def parAt (B : List Bd) (k : Nat) : Int := match B[k]? with
  | some b => b.par
  | none => -1
def capAt (B : List Bd) (k : Nat) : Int := match B[k]? with
  | some b => b.cap
  | none => 0
/-- each parent is -1 or an earlier index -/
def WF (B : List Bd) : Prop := ∀ (k : Nat) (b : Bd), B[k]? = some b → -1 ≤ b.par ∧ b.par < k
theorem parAt_lt {B : List Bd} (h : WF B) (k : Nat) : -1 ≤ parAt B k ∧ parAt B k < k := by
  unfold parAt
  split
  · rename_i b e; exact h k b e
  · omega
def ch (B : List Bd) : Nat → Int → List Int
  | 0, _ => []
  | f + 1, k => if k < 0 then [] else k :: ch B f (parAt B k.toNat)
theorem ch_fuel {B : List Bd} (h : WF B) : ∀ (n f g : Nat) (k : Int), (k + 1).toNat ≤ n → n ≤ f → n ≤ g → ch B f k = ch B g k := by
  intro n
  induction n with
  | zero =>
    intro f g k hk _ _
    have hk' : k < 0 := by omega
    cases f <;> cases g <;> simp [ch, hk']
  | succ n ih =>
    intro f g k hk hf hg
    obtain ⟨f', rfl⟩ : ∃ f', f = f' + 1 := ⟨f - 1, by omega⟩
    obtain ⟨g', rfl⟩ : ∃ g', g = g' + 1 := ⟨g - 1, by omega⟩
    by_cases hk' : k < 0
    · simp [ch, hk']
    · have hp := parAt_lt h k.toNat
      simp only [ch, if_neg hk']
      rw [ih f' g' (parAt B k.toNat) (by omega) (by omega) (by omega)]
/-- k and what is above it -/
def full (B : List Bd) (k : Int) : List Int := ch B (k + 1).toNat k
theorem full_neg {B : List Bd} {k : Int} (hk : k < 0) : full B k = [] := by
  unfold full
  have e : (k + 1).toNat = 0 := by omega
  rw [e]; rfl
theorem full_pos {B : List Bd} (h : WF B) {k : Int} (hk : 0 ≤ k) : full B k = k :: full B (parAt B k.toNat) := by
  have hp := parAt_lt h k.toNat
  unfold full
  obtain ⟨m, hm⟩ : ∃ m, (k + 1).toNat = m + 1 := ⟨k.toNat, by omega⟩
  rw [hm]
  simp only [ch, if_neg (show ¬ k < 0 by omega)]
  rw [ch_fuel h (parAt B k.toNat + 1).toNat m (parAt B k.toNat + 1).toNat _ (Nat.le_refl _) (by omega) (Nat.le_refl _)]
theorem ch_full {B : List Bd} (h : WF B) {f : Nat} {k : Int} (hf : k < f) : ch B f k = full B k :=
  ch_fuel h (k + 1).toNat f _ k (Nat.le_refl _) (by omega) (Nat.le_refl _)
theorem full_mem {B : List Bd} (h : WF B) : ∀ (n : Nat) (k : Int), (k + 1).toNat ≤ n → ∀ x ∈ full B k, 0 ≤ x ∧ x ≤ k := by
  intro n
  induction n with
  | zero =>
    intro k hk x hx
    rw [full_neg (by omega)] at hx
    cases hx
  | succ n ih =>
    intro k hk x hx
    by_cases hk' : k < 0
    · rw [full_neg hk'] at hx
      cases hx
    · rw [full_pos h (by omega)] at hx
      have hp := parAt_lt h k.toNat
      rcases List.mem_cons.mp hx with e | hx
      · subst e; omega
      · have := ih _ (by omega) x hx
        omega
theorem full_le {B : List Bd} (h : WF B) {k x : Int} (hx : x ∈ full B k) : 0 ≤ x ∧ x ≤ k := full_mem h _ k (Nat.le_refl _) x hx

/-! ### sums -/
def sm : Nat → (Nat → Int) → Int
  | 0, _ => 0
  | n + 1, g => sm n g + g n
theorem sm_congr {g g' : Nat → Int} : ∀ {n : Nat}, (∀ j, j < n → g j = g' j) → sm n g = sm n g'
  | 0, _ => rfl
  | n + 1, h => by
    simp only [sm]
    rw [sm_congr (n := n) fun j hj => h j (by omega), h n (by omega)]
theorem sm_add (g g' : Nat → Int) : ∀ n : Nat, sm n (fun j => g j + g' j) = sm n g + sm n g'
  | 0 => rfl
  | n + 1 => by
    simp only [sm]
    rw [sm_add g g' n]
    omega
theorem sm_zero : ∀ n : Nat, sm n (fun _ => 0) = 0
  | 0 => rfl
  | n + 1 => by simp only [sm]; rw [sm_zero n]; rfl
theorem sm_swap (g : Nat → Nat → Int) (m : Nat) : ∀ n : Nat, sm n (fun i => sm m (g i)) = sm m (fun j => sm n (fun i => g i j))
  | 0 => (sm_zero m).symm
  | n + 1 => by
    show sm n (fun i => sm m (g i)) + sm m (g n) = sm m (fun j => sm n (fun i => g i j) + g n j)
    rw [sm_add, sm_swap g m n]
theorem sm_one (x : Int) (i : Nat) : ∀ n : Nat, sm n (fun j => if j = i then x else 0) = if i < n then x else 0
  | 0 => by simp [sm]
  | n + 1 => by
    simp only [sm]
    rw [sm_one x i n]
    by_cases h1 : i < n
    · rw [if_pos h1, if_neg (show ¬ n = i by omega), if_pos (show i < n + 1 by omega)]; omega
    · by_cases h2 : n = i
      · rw [if_neg h1, if_pos h2, if_pos (show i < n + 1 by omega)]; omega
      · rw [if_neg h1, if_neg h2, if_neg (show ¬ i < n + 1 by omega)]; omega
theorem sm_nonneg {g : Nat → Int} : ∀ {n : Nat}, (∀ j, j < n → 0 ≤ g j) → 0 ≤ sm n g
  | 0, _ => Int.le_refl 0
  | n + 1, h => by
    simp only [sm]
    have h1 := sm_nonneg (n := n) (g := g) fun j hj => h j (by omega)
    have h2 := h n (by omega)
    omega
theorem sm_le {g : Nat → Int} {c : Int} : ∀ {n : Nat}, (∀ j, j < n → g j ≤ c) → sm n g ≤ n * c
  | 0, _ => by simp [sm]
  | n + 1, h => by
    simp only [sm]
    have h1 := sm_le (n := n) (g := g) (c := c) fun j hj => h j (by omega)
    have h2 := h n (by omega)
    have e : ((n + 1 : Nat) : Int) * c = n * c + c := by rw [Int.natCast_add, Int.add_mul]; simp
    omega
theorem sum_filter (p : Nat → Bool) (g : Nat → Int) : ∀ n : Nat, (((List.range n).filter p).map g).sum = sm n (fun j => if p j = true then g j else 0)
  | 0 => rfl
  | n + 1 => by
    rw [List.range_succ, List.filter_append, List.map_append, List.sum_append, sum_filter p g n]
    simp only [sm]
    by_cases h : p n = true
    · simp [h]
    · simp [h]

/-! ### what is used -/
/-- used of the budget k: the faults whose source is k or has it above itself -/
def U (B : List Bd) (f : Nat → Int) (k : Nat) : Int := sm B.length (fun j => if (k : Int) ∈ full B j then f j else 0)
theorem U_congr {B : List Bd} {f g : Nat → Int} (h : ∀ j, j < B.length → f j = g j) (k : Nat) : U B f k = U B g k :=
  sm_congr fun j hj => by rw [h j hj]
theorem U_add (B : List Bd) (f g : Nat → Int) (k : Nat) : U B (fun j => f j + g j) k = U B f k + U B g k := by
  unfold U
  rw [← sm_add]
  refine sm_congr fun j _ => ?_
  by_cases q : (k : Int) ∈ full B j
  · simp only [if_pos q]
  · simp only [if_neg q]; rfl
/-- the indicator's recurrence -/
theorem ind_rec {B : List Bd} (h : WF B) (f : Int) (k : Nat) (hk : k < B.length) : ∀ (n : Nat) (j : Int), (j + 1).toNat ≤ n → j < B.length →
    (if (k : Int) ∈ full B j then f else 0) = (if (k : Int) = j then f else 0) + sm B.length (fun c => if parAt B c = k then (if (c : Int) ∈ full B j then f else 0) else 0) := by
  intro n
  induction n with
  | zero =>
    intro j hj _
    rw [full_neg (show j < 0 by omega)]
    have e : sm B.length (fun c => if parAt B c = k then (if (c : Int) ∈ ([] : List Int) then f else 0) else 0) = 0 :=
      (sm_congr (g' := fun _ => 0) fun c _ => by simp).trans (sm_zero _)
    rw [e, if_neg (List.not_mem_nil), if_neg (show ¬ (k : Int) = j by omega)]
    rfl
  | succ n ih =>
    intro j hj hjl
    by_cases hj0 : j < 0
    · exact ih j (by omega) hjl
    · have hp := parAt_lt h j.toNat
      have ihp := ih (parAt B j.toNat) (by omega) (by omega)
      rw [full_pos h (show 0 ≤ j by omega)]
      have e1 : ∀ c : Nat, c < B.length → (if parAt B c = (k : Int) then (if (c : Int) ∈ j :: full B (parAt B j.toNat) then f else 0) else 0)
          = (if c = j.toNat then (if parAt B j.toNat = (k : Int) then f else 0) else 0) + (if parAt B c = (k : Int) then (if (c : Int) ∈ full B (parAt B j.toNat) then f else 0) else 0) := by
        intro c _
        by_cases hc : c = j.toNat
        · subst hc
          have hn : ¬ ((j.toNat : Nat) : Int) ∈ full B (parAt B j.toNat) := fun q => by
            have := full_le h q
            omega
          have hm : ((j.toNat : Nat) : Int) ∈ j :: full B (parAt B j.toNat) := List.mem_cons.mpr (.inl (by omega))
          rw [if_pos hm, if_neg hn, if_pos rfl]
          split <;> omega
        · have hm : ((c : Int) ∈ j :: full B (parAt B j.toNat)) ↔ (c : Int) ∈ full B (parAt B j.toNat) := by
            constructor
            · intro q
              rcases List.mem_cons.mp q with q | q
              · omega
              · exact q
            · exact fun q => List.mem_cons.mpr (.inr q)
          rw [if_neg hc]
          simp only [hm]
          omega
      rw [sm_congr e1, sm_add, sm_one, if_pos (show j.toNat < B.length by omega)]
      by_cases hkj : (k : Int) = j
      · have hn : ¬ (k : Int) ∈ full B (parAt B j.toNat) := fun q => by
          have := full_le h q
          omega
        rw [if_neg hn] at ihp
        rw [if_neg (show ¬ (k : Int) = parAt B j.toNat by omega)] at ihp
        rw [if_pos (List.mem_cons.mpr (.inl hkj)), if_pos hkj, if_neg (show ¬ parAt B j.toNat = (k : Int) by omega)]
        omega
      · have hm : ((k : Int) ∈ j :: full B (parAt B j.toNat)) ↔ (k : Int) ∈ full B (parAt B j.toNat) := by
          constructor
          · intro q
            rcases List.mem_cons.mp q with q | q
            · exact absurd q hkj
            · exact q
          · exact fun q => List.mem_cons.mpr (.inr q)
        simp only [hm]
        rw [ihp, if_neg hkj]
        by_cases hq : (k : Int) = parAt B j.toNat
        · rw [if_pos hq, if_pos hq.symm]; omega
        · rw [if_neg hq, if_neg (fun z => hq z.symm)]; omega
theorem U_rec {B : List Bd} (h : WF B) (f : Nat → Int) {k : Nat} (hk : k < B.length) : U B f k = f k + sm B.length (fun c => if parAt B c = k then U B f c else 0) := by
  unfold U
  have e : ∀ j, j < B.length → (if (k : Int) ∈ full B (j : Int) then f j else 0) = (if j = k then f k else 0) + sm B.length (fun c => if parAt B c = k then (if (c : Int) ∈ full B j then f j else 0) else 0) := by
    intro j hj
    rw [ind_rec h (f j) k hk ((j : Int) + 1).toNat j (Nat.le_refl _) (by omega)]
    by_cases q : j = k
    · subst q; rw [if_pos rfl, if_pos rfl]
    · rw [if_neg q, if_neg (show ¬ (k : Int) = (j : Int) by omega)]
  rw [sm_congr e, sm_add, sm_one, if_pos hk, sm_swap]
  congr 1
  refine sm_congr fun c _ => ?_
  by_cases q : parAt B c = k
  · simp only [if_pos q]
  · simp only [if_neg q]
    exact sm_zero _
/-- the children from m on -/
def V' (B : List Bd) (f : Nat → Int) (m : Nat) (k : Nat) : Int := f k + sm B.length (fun c => if m ≤ c ∧ parAt B c = k then U B f c else 0)
theorem V_zero {B : List Bd} (h : WF B) (f : Nat → Int) {k : Nat} (hk : k < B.length) : V' B f 0 k = U B f k := by
  rw [U_rec h f hk]
  unfold V'
  congr 1
  exact sm_congr fun c _ => by simp
theorem V_own {B : List Bd} (h : WF B) (f : Nat → Int) {k : Nat} (hk : k < B.length) : V' B f (k + 1) k = U B f k := by
  rw [U_rec h f hk]
  unfold V'
  congr 1
  refine sm_congr fun c _ => ?_
  by_cases q : parAt B c = k
  · have := (parAt_lt h c).2
    rw [if_pos ⟨by omega, q⟩, if_pos q]
  · rw [if_neg (fun z => q z.2), if_neg q]
theorem V_all (B : List Bd) (f : Nat → Int) (k : Nat) : V' B f B.length k = f k := by
  unfold V'
  rw [sm_congr (g' := fun _ => 0) (fun c hc => if_neg (fun z => by omega)), sm_zero]
  omega
theorem V_step {B : List Bd} (f : Nat → Int) {m k : Nat} (hm : m < B.length) : V' B f m k = V' B f (m + 1) k + (if parAt B m = k then U B f m else 0) := by
  unfold V'
  have e : ∀ c, c < B.length → (if m ≤ c ∧ parAt B c = (k : Int) then U B f c else 0) = (if m + 1 ≤ c ∧ parAt B c = (k : Int) then U B f c else 0) + (if c = m then (if parAt B m = (k : Int) then U B f m else 0) else 0) := by
    intro c _
    by_cases q : c = m
    · subst q
      rw [if_neg (show ¬ (c + 1 ≤ c ∧ parAt B c = (k : Int)) from fun z => by omega), if_pos rfl]
      by_cases r : parAt B c = (k : Int)
      · rw [if_pos ⟨Nat.le_refl _, r⟩, if_pos r]; omega
      · rw [if_neg (fun z => r z.2), if_neg r]; omega
    · rw [if_neg q]
      by_cases r : m + 1 ≤ c ∧ parAt B c = (k : Int)
      · rw [if_pos r, if_pos ⟨by omega, r.2⟩]; omega
      · rw [if_neg r, if_neg (fun z => r ⟨by omega, z.2⟩)]; omega
  rw [sm_congr e, sm_add, sm_one, if_pos hm]
  omega
def usedL (B : List Bd) (f : Nat → Int) : List Int := (List.range B.length).map (U B f)
def fitsP (B : List Bd) (f : Nat → Int) : Prop := ∀ k, k < B.length → U B f k ≤ capAt B k
instance (B : List Bd) (f : Nat → Int) : Decidable (fitsP B f) := by unfold fitsP; infer_instance
end Fd

set_option Elab.async false
set_option linter.all false
set_option maxRecDepth 100000
set_option maxHeartbeats 2000000
/-! Rules of my own: repr of data, a def that is called while no repr is under way, enumerate over a tuple. -/
namespace Fd
open PySem PySem.Spec PyProof.Rows L2

/-! ### a promise kept wherever no repr is under way -/
structure GOk (P : Program) (w : World) (K : PySem.W.Frag) (mg : Str → Option Value) (base : Heap) (k : Nat) (f : Addr) (fd : FuncData) (ps : List Str) (sp : Sp) : Prop where
  size : ∀ vs H Q E, sp vs H Q E → vs.length = ps.length
  go : ∀ (A : Around) (out : List Env) (s : Shared) (H : Hp) (ar : Args) (us : List Value) (vs : List V) (Q : VK) (E : XK), A.guards = some [] → Room k A → Env0 P w K mg base A out s H →
    BindsTo s fd ar (ps.zip us) → Vals vs us → sp vs H Q E → codeAny (model P w) A (.call (.ref f) ar) (CR CX0 out P w H s Q E) s

section
variable {P : Program} {w : World} {K : PySem.W.Frag} {mg : Str → Option Value} {base : Heap}
theorem gok_of {x qual : Str} {st : Stmt} {f : Addr} {fd : FuncData} {N ps : List Str} {k : Nat} {sp : Sp} (F : Fun K x qual st f fd) (S : FnScope N ps (defScope st))
    (size : ∀ vs H Q E, sp vs H Q E → vs.length = ps.length)
    (body : ∀ (cdv : Value) (A : Around) (out : List Env) (s : Shared) (H : Hp) (vs : List V) (Q : VK) (E : XK), A.guards = some [] →
      Room k (A.deeper (envOfC qual (defScope st) s.heap.objs.size f cdv)) → sp vs H Q E →
      ∃ t, PSs (cxOf CX0 P w K mg base N qual (defScope st) f cdv A out s H E).nox (defBody st) t ∧ t { nx := fun _ H' => Q .non H', rt := Q } (start N vs) H) :
    GOk P w K mg base (k + 1) f fd ps sp := by
  obtain ⟨c1, c2, c3, c4, c5, c6, cdv, c7, c8, rfl, look, code⟩ := F.ex
  refine ⟨size, fun A out s H ar us vs Q E hg hr e0 hb rel hsp => ?_⟩
  have kin : K.In s.heap := e0.mod.kin.keeps fun b o q => (e0.bs b o q).1
  have par : ∀ y ∈ ps.zip us, (defScope st).names.lookup y.1 = some .local ∨ ((defScope st).names.lookup y.1 = some .cell ∧ ((cellsFrom (s.heap.objs.size + 1) (defScope st).names []).lookup y.1).isSome = true) := by
    intro y hy
    have hp : y.1 ∈ ps := by
      obtain ⟨n, v⟩ := y
      exact (List.of_mem_zip hy).1
    exact (S.par y.1 hp).imp id fun q => ⟨q, PySem.W.cellsFrom_some _ _ _ (.inl q)⟩
  refine codeAny_call_function hr.depth (kin _ _ look) rfl S.co S.gen rfl (PySem.W.codeRec_of kin code) (hb _ _ _ _ ?_)
  refine wpAny_newFunctionEnv_cells S.kind par fun env he s1 inn => ?_
  subst he
  refine ⟨(e0.mod.nolimit.keeps fun b o q => (e0.bs b o q).1).keeps inn.toInCall.keep, codeAny_func ?_⟩
  obtain ⟨t, ht, hq⟩ := body cdv A out s H vs Q E hg (hr.deeper _) hsp
  have I := inv_start (CX := CX0) (E := E) S hr.hd e0 (size _ _ _ _ hsp) rel inn
  refine wpAny_mono (ht.nox.run [] s1 (start N vs) H _ I hq) (fun fl s' hs => ?_) fun _ _ hs => hs
  cases fl with
  | ret u => exact let ⟨v, _, H', J, rv, q⟩ := hs; ⟨v, H', J.os, J.bare, J.base, J.hok, rv, q⟩
  | next => exact let ⟨_, H', J, q⟩ := hs; ⟨V.non, H', J.os, J.bare, J.base, J.hok, rfl, q⟩
  | brk => exact let ⟨_, _, _, q⟩ := hs; False.elim q
  | cont => exact let ⟨_, _, _, q⟩ := hs; False.elim q
end
section
variable {X : Cx} {k : Nat} {f : Addr} {fd : FuncData} {ps : List Str} {sp : Sp} {x : Str} {p pos : Pos} {e : Expr} {es : List Expr} {t : TA}
theorem pe_callG (F : GOk X.prog X.w X.K X.mg X.base k f fd ps sp) (hgu : X.A.guards = some []) (hr : Room k X.A) (hg : Gl X x) (hm : X.mg x = some (.ref f)) (hk : PySem.W.keepIn X.K (.ref f) = true) (hb : Binds X.K fd ps [])
    (ha : PA X (e :: es) t) (hdb : (x == ("__debug__" : Str)) = false := by decide) (he : starEach (e :: es) X.env = (false, eval e X.env) :: starEach es X.env := by rfl)
    (hpl : (backTo pos (starEach es X.env)).any (·.1) = false := by rfl) : PE X (.Call (.Name x p) (e :: es) [] pos) (tCall sp [] E0 t) := by
  constructor
  intro pins s σ H Q I h
  refine wpAny_Call_Name_kw (ld_glob I hg hm ?_ hdb)
  refine PySem.W.callWith_K (h₀ := X.base) I.ok.mod.kin hk (thn (ha.run pos pins s σ H _ I h) fun us s1 hu => ?_) he hpl
  obtain ⟨vs, H1, I1, rel, q⟩ := hu
  have q' : sp vs H1 Q E0 := by rw [List.append_nil] at q; exact q
  have hl : us.length = ps.length := by rw [← rel.length]; exact F.size _ _ _ _ q'
  have bd := hb s1 us I1.kIn (by rw [List.append_nil]; exact hl)
  rw [List.append_nil] at bd
  refine ⟨I1.kIn, wpAny_call (codeAny_mono (F.go X.A X.stack s1 H1 ⟨us, []⟩ us vs Q E0 hgu hr I1.env0 bd rel q') fun r s' hq => ?_)⟩
  cases r with
  | error _ => exact False.elim hq
  | ok fl =>
    cases fl with
    | ret u => exact I1.after hq
    | next => exact False.elim hq
    | brk => exact False.elim hq
    | cont => exact False.elim hq

/-! ### repr -/
/-- data whose text is short: ints below 10^12 -/
def smallD (d : PyData) : Prop := d.showable = true ∧ d.hasDict = false ∧ d.leavesShort 13 = true ∧ d.bulk ≤ 2 ^ 20 ∧ d.depth ≤ 60
theorem call_repr_dp (hgu : X.A.guards = some []) (hu : X.A.units + 64 < cLine) : CallR X (.builtin "repr") (fun xs H Q => ∃ v d, xs = [v] ∧ Dp X.K H v d ∧ smallD d ∧ Q (.str d.shown) H) := by
  intro pins s σ H xs us Q I r h
  obtain ⟨v, d, rfl, dp, ⟨sh, nd, lv, bk, de⟩, q⟩ := h
  obtain ⟨u, rfl, ru⟩ := vals1 r
  have sz : d.shown.length ≤ sizeLine := PyData.shown_fits_bulk (by decide) (Nat.le_refl 13) lv bk
  obtain ⟨as, rd⟩ := Dp.reads I d v u dp ru
  cases dp with
  | non => obtain rfl : u = Value.none := ru; exact PySem.P.repr_of_none ⟨.str _, H, I.tok _, ⟨_, rfl⟩, q⟩
  | bl b => obtain rfl : u = Value.bool b := ru; exact PySem.P.repr_of_bool ⟨.str _, H, I.tok _, ⟨_, rfl⟩, q⟩
  | int i =>
    obtain ⟨tk, rfl⟩ := ru
    exact PySem.P.repr_of_int (of_decide_eq_true sh) ⟨.str _, H, I.tok _, ⟨_, rfl⟩, q⟩
  | str z =>
    obtain ⟨tk, rfl⟩ := ru
    exact PySem.P.repr_of_str ⟨.str _, H, I.tok _, ⟨_, rfl⟩, q⟩ sz
  | lst _ _ =>
    obtain rfl : u = Value.ref _ := ru
    exact repr_of_reads' rd sh (PyData.noDict_hsm nd) hgu (by omega) (fun _ _ z => z) (fun h' u tk hk => ⟨.str _, H, I.kept hk, ⟨_, rfl⟩, q⟩) sz
  | tup _ _ =>
    obtain rfl : u = Value.ref _ := ru
    exact repr_of_reads' rd sh (PyData.noDict_hsm nd) hgu (by omega) (fun _ _ z => z) (fun h' u tk hk => ⟨.str _, H, I.kept hk, ⟨_, rfl⟩, q⟩) sz
end
end Fd

set_option Elab.async false
set_option linter.all false
set_option maxRecDepth 100000
set_option maxHeartbeats 2000000
/-! enumerate over a tuple -/
namespace Fd
open PySem PySem.Spec PyProof.Rows L2 RZ

theorem meets_enumT (l : Addr) (items : Array Value) (n : Nat) (o0 : Obj) (hc : o0.cls = .type "tuple") (hd : o0.data = .seq items n) :
    Meets (Builtin.«enumerate.__new__» ⟨[.type "enumerate", .ref l], []⟩) (fun _ R s => s.heap.get? l = some o0 ∧
      R (.ok (.ret (.ref (s.heap.push { cls := .type "tuple_iterator", data := .fields #[.ref l, .int 0 0] }).objs.size)))
        { s with heap := (s.heap.push { cls := .type "tuple_iterator", data := .fields #[.ref l, .int 0 0] }).push { cls := .type "enumerate", data := .fields #[.none, .bool false, .ref s.heap.objs.size, rawInt 0, .none, .none] } }) :=
  .of_wp fun prog w A R s h => by
    obtain ⟨hp, g, d, tk, os⟩ := s; obtain ⟨hl, h⟩ := h
    have hsub := sub_enumerate
    have hT : Heap.IsTuple (Shared.heap ⟨hp, g, d, tk, os⟩) l items := ⟨_, hl, hc, n, hd⟩
    wp_walk using AutoSeq1.wpAny_loadPart' hl
    refine wpAny_stack_any fun st => wpAny_pure ?_
    split
    · rename_i c _ _ _ _ _
      cases (c == Value.type "enumerate")
      · wp_walk using AutoSeq1.wpAny_loadPart' hl, wpAny_pyIter_tuple hT
        exact ⟨_, rfl, h⟩
      · wp_walk using AutoSeq1.wpAny_loadPart' hl, wpAny_pyIter_tuple hT
        exact ⟨_, rfl, h⟩
    · wp_walk using AutoSeq1.wpAny_loadPart' hl, wpAny_pyIter_tuple hT
      exact ⟨_, rfl, h⟩
section
variable {prog : Program} {w : World} {A : Around} {E : Value → Shared → Prop} {s : Shared}
theorem enumT_new {l : Addr} {items : Array Value} {Q : Value → Shared → Prop} (hT : IsTup s.heap l items)
    (h : ∀ h', IsEnum h' (s.heap.objs.size + 1) s.heap.objs.size 0 .none → h'.IsTupleIter s.heap.objs.size l 0 → h'.objs.size = s.heap.objs.size + 2 →
      (∀ b o, s.heap.get? b = some o → h'.get? b = some o) → Q (.ref (s.heap.objs.size + 1)) { s with heap := h' }) :
    wpAny (model prog w) A (call (.type "enumerate") [.ref l]) Q E s := by
  obtain ⟨ob, hl, hc, n, hd⟩ := hT
  refine callType_new F.called_enumerate (by decide) (F.typeCall_enumerate_1 _) (F.newCall_enumerate_1 _) (fun obj => F.args_object_init_2 obj _) F.entry_enumerate_new
    (meets_enumT l items n ob hc hd) ⟨hl, ?_⟩
  generalize h1 : s.heap.push { cls := .type "tuple_iterator", data := .fields #[.ref l, .int 0 0] } = g1
  have hz : g1.objs.size = s.heap.objs.size + 1 := by rw [← h1]; exact Heap.size_push ..
  have hi : g1.get? s.heap.objs.size = some { cls := .type "tuple_iterator", data := .fields #[.ref l, .int 0 0] } := by rw [← h1]; exact Heap.get?_push_size _ rfl
  have hk : ∀ b o, s.heap.get? b = some o → g1.get? b = some o := fun b o q => by rw [← h1]; exact Heap.get?_push_of_some _ q
  have he : IsEnum (g1.push { cls := .type "enumerate", data := .fields #[.none, .bool false, .ref s.heap.objs.size, rawInt 0, .none, .none] }) (s.heap.objs.size + 1) s.heap.objs.size 0 .none := by
    have q := Heap.get?_push_size g1 (o := { cls := .type "enumerate", data := .fields #[.none, .bool false, .ref s.heap.objs.size, rawInt 0, .none, .none] }) rfl
    rw [hz] at q
    exact q
  rw [hz]
  exact ⟨⟨_, he, rfl⟩, h _ he ⟨_, Heap.get?_push_of_some _ hi, rfl, rfl⟩ (by rw [Heap.size_push, hz]) fun b o q => Heap.get?_push_of_some _ (hk b o q)⟩
end
/-- the tuple at a, each item in a new pair with its place -/
def IteT (K : PySem.W.Frag) (a : Addr) : It :=
  ⟨fun i H => ∃ (xs : List V) (x : V), SqT K H a xs ∧ xs[i]? = some x,
   fun i H v H' => ∃ T x, v = .ref T ∧ H T = none ∧ H' = upd H T (.tup [.int (i : Nat), x]) ∧ ∀ xs, SqT K H a xs → xs[i]? = some x,
   fun i H => ∃ xs : List V, SqT K H a xs ∧ xs.length ≤ i⟩
theorem turn_enumT {P : Program} {w : World} {K : PySem.W.Frag} {elts : List Expr} {kk : Nat} {tpos : Pos} (a e it : Addr) (hea : a ≠ e) (hia : a ≠ it) :
    Turn P w K (.Tuple elts kk tpos) (IteT K a) [e, it] e (fun i h => (∃ old, IsEnum h e it ((i : Nat) : Int) old) ∧ h.IsTupleIter it a i ∧ e ≠ it) where
  mem := List.mem_cons_self
  obj := by
    intro i h st b hb
    obtain ⟨⟨old, he⟩, ⟨ob, ho, hc, hd⟩, _⟩ := st
    rcases List.mem_cons.mp hb with z | hb
    · rw [z]
      exact ⟨_, he, fun v q => nomatch q⟩
    · rcases List.mem_cons.mp hb with z | hb
      · rw [z]
        exact ⟨ob, ho, fun v q => by rw [hd] at q; cases q⟩
      · cases hb
  keep := fun i h h' st k => ⟨let ⟨old, he⟩ := st.1; ⟨old, k e (by simp) _ he⟩, st.2.1.at fun o q => k it (by simp) o q, st.2.2⟩
  item := by
    intro X hP hw hK hc i pins s σ H E I hf st hg
    subst hP hw hK
    obtain ⟨⟨old, he⟩, hit, hne⟩ := st
    obtain ⟨xs, x, hq, hx⟩ := hg
    obtain ⟨its, rv, p, hz⟩ := I.tuple hq
    obtain ⟨u, hu, ru⟩ := rv.get hx
    have hin : i < its.toArray.size := by
      have q := (List.getElem?_eq_some_iff.mp hu).1
      simpa using q
    have lE : e < s.heap.objs.size := Heap.lt_size he
    have lI : it < s.heap.objs.size := let ⟨_, q, _⟩ := hit; Heap.lt_size q
    refine wpAny_pyNext_enum_itemD (Draws.tuple (A := X.A.in1) (prog := X.prog) (w := X.w) (I.ok.hd hc) it a hia its.toArray) he ⟨hit, p⟩ hin hne (by simp [hne, hea.symm]) fun y h' tk hy ho hst hT hsz hk => ?_
    have ey : y = u := by
      have q : its.toArray[i]? = some u := by simpa using hu
      exact Option.some.inj (hy.symm.trans q)
    subst ey
    refine ⟨_, rfl, wpAny_letOwnedTupleGo_enum (s := { s with heap := h', toks := tk + 1 }) ho fun h'' he' sb => ?_⟩
    have nT : s.heap.objs.size ≠ e := Nat.ne_of_gt lE
    have tup2 := (sb.2 _ nT).trans hT
    have new : ObjOk X.prog X.w (upd H s.heap.objs.size (.tup [.int (i : Nat), x])) h'' s.heap.objs.size (.tup [.int (i : Nat), x]) :=
      ⟨by show 2 ≤ sizeLine; decide, [.int i tk, y], .cons ⟨_, rfl⟩ (.cons ru .nil), ⟨_, tup2, rfl, _, rfl⟩⟩
    have I1 : Inv X pins σ (upd H s.heap.objs.size (.tup [.int (i : Nat), x])) { s with heap := h'', toks := tk + 1 } := by
      refine I.turnedNew (ch := [e, it]) (fun b ob hb q => ?_) hf (Nat.le_refl _) new
      have b1 : b ≠ e := fun z => hb (by rw [z]; exact List.mem_cons_self)
      have b2 : b ≠ it := fun z => hb (by rw [z]; exact List.mem_cons_of_mem _ List.mem_cons_self)
      exact (sb.2 b b1).trans (hk b ob b1 b2 q)
    refine ⟨.ref s.heap.objs.size, _, I1, rfl, ⟨_, x, rfl, I.hok.fresh (Nat.le_refl _), rfl, fun ys hy' => by rw [I.tuple_inj hy' hq]; exact hx⟩, ⟨⟨y, ?_⟩, hst.1.at fun o q => (sb.2 it hne.symm).trans q, hne⟩, fun b hb => ?_⟩
    · rw [show ((i + 1 : Nat) : Int) = (i : Int) + 1 by omega]
      exact he'
    · have lb : b < s.heap.objs.size := by
        rcases List.mem_cons.mp hb with z | hb
        · rw [z]; exact lE
        · rcases List.mem_cons.mp hb with z | hb
          · rw [z]; exact lI
          · cases hb
      rw [upd_ne (Nat.ne_of_lt lb)]
      exact (hf b hb).1
  done := by
    intro X hP hw hK hc i pins s σ H E I hf st hg
    subst hP hw hK
    obtain ⟨⟨old, he⟩, hit, hne⟩ := st
    obtain ⟨xs, hq, hx⟩ := hg
    obtain ⟨its, rv, p, hz⟩ := I.tuple hq
    obtain ⟨f0, f1, f2, f3, f4, f5⟩ := hf it (by simp)
    have hl := rv.length
    have hT : s.TypeIs (.ref e) "enumerate" := ⟨_, he, rfl⟩
    unfold pyNext
    refine wpAny_bind (wpAny_attempt (wpAny_callSpecial?_slot (name := Str.ofString "__next__") hT F.slot_enumerate_next (wpAny_call_entry F.slot_enumerate_next hT F.entry_enumerate_next ?_ (F.args_enumerate_next_1 _))))
    show wpAny _ _ (field (.ref e) 2 >>= _) _ _ _
    refine wpAny_bind (wpAny_field he rfl (x := .ref it) rfl ?_)
    refine wpAny_bind (wpAny_nextOf_tuple_end (I.ok.hd hc) hit p (by simp; omega) fun h' ex eb hx' => ?_)
    obtain ⟨oo, ho, hcl⟩ := hx'
    refine wpAny_bind (wpAny_isInstance (T := "StopIteration") (b := true) ⟨oo, ho, hcl⟩ isSubtype_stop ?_)
    exact wpAny_pure ⟨rfl, I.turned (t' := s.toks) (fun b o hb q => eb b o hb q) f0 f1 f3 f4 f5⟩
  self := fun A i s Q E st h => let ⟨⟨_, he⟩, _⟩ := st; wpAny_pyIter_enum he h
def iEnumT (K : PySem.W.Frag) (ta : TA) : TI := fun σ H R => ta σ H fun vs H1 => ∃ a xs, vs = [.ref a] ∧ SqT K H1 a xs ∧ R (IteT K a) H1
theorem pi_enumT {X : Cx} {e : Expr} {ta : TA} {p pos tpos : Pos} {elts : List Expr} {kk : Nat} (hg : Gl X "enumerate") (hm : X.mg "enumerate" = none) (ha : PA X [e] ta) (hs : starEach [e] X.env = [(false, eval e X.env)] := by rfl) :
    PI X (.Tuple elts kk tpos) (.Call (.Name "enumerate" p) [e] [] pos) (iEnumT X.K ta) := by
  constructor
  intro pins s σ H R I h
  refine Call_ (ld_blt I hg hm boot_enumerate (PyProof.Rows.callWith_type1 (thn (ha.run pos pins s σ H _ I h) fun us s1 hv => ?_) hs rfl))
  obtain ⟨vs, H1, I1, r1, a, xs, rfl, hq, q⟩ := hv
  obtain ⟨u, rfl, ru⟩ := vals1 r1
  obtain rfl : u = Value.ref a := ru
  obtain ⟨its, rv, tu, hz⟩ := I1.tuple hq
  refine enumT_new tu fun h' he hit hsz hk => wpAny_pyIter_enum he ?_
  have la : a < s1.heap.objs.size := tu.lt
  refine ⟨s1.heap.objs.size + 1, [s1.heap.objs.size + 1, s1.heap.objs.size], _, _, H1, rfl, I1.kept (t' := s1.toks) hk, turn_enumT a (s1.heap.objs.size + 1) s1.heap.objs.size (Nat.ne_of_lt (Nat.lt_succ_of_lt la)) (Nat.ne_of_lt la), ⟨⟨.none, he⟩, hit, Nat.succ_ne_self _⟩, fun b hb => ?_, q⟩
  have lb : s1.heap.objs.size ≤ b := by
    rcases List.mem_cons.mp hb with z | hb
    · rw [z]; exact Nat.le_succ _
    · rcases List.mem_cons.mp hb with z | hb
      · rw [z]; exact Nat.le_refl _
      · cases hb
  exact I1.fpOk lb (I1.hok.fresh lb)
theorem walk_enumT {K : PySem.W.Frag} {a : Addr} {xs : List V} : Walk (IteT K a) xs.length (fun H => SqT K H a xs) (YPair (fun i => some (.int (i : Nat))) (fun i => xs[i]?)) := by
  refine ⟨fun i _ hi q => ⟨xs, xs[i], q, by simp [hi]⟩, fun _ q => ⟨xs, q, Nat.le_refl _⟩, fun i H v H' _ q y => ?_⟩
  obtain ⟨T, x, h1, h2, h3, h4⟩ := y
  exact ⟨T, .int (i : Nat), x, h1, h2, h3, rfl, h4 xs q⟩
theorem walk_zipT {K : PySem.W.Frag} {a b : Addr} {xs ys : List V} {n : Nat} (hn : n = xs.length) (hn2 : n = ys.length) : Walk (ItzT K a b) n (fun H => SqT K H a xs ∧ SqT K H b ys) (YPair (fun i => xs[i]?) (fun i => ys[i]?)) := by
  refine ⟨fun i _ hi q => ?_, fun _ q => ⟨xs, ys, q.1, q.2, by omega⟩, fun i H v H' _ q y => ?_⟩
  · have h1 : i < xs.length := by omega
    have h2 : i < ys.length := by omega
    exact ⟨xs, ys, xs[i], ys[i], q.1, q.2, by simp [h1], by simp [h2]⟩
  · obtain ⟨T, x, z, h1, h2, h3, h4, h5⟩ := y
    exact ⟨T, x, z, h1, h2, h3, h4 xs q.1, h5 ys q.2⟩
end Fd

set_option Elab.async false
set_option linter.all false
set_option maxRecDepth 100000
set_option maxHeartbeats 2000000
/-! The head of a law whose promise holds where no repr is under way. -/
namespace Fd
open PySem PySem.Spec PyProof.Rows L2

/-- what is tracked at the law's entry: the script alone, unless it is an object of the top -/
def entryH (K : PySem.W.Frag) (a : Addr) (o : Obj) (xs : List V) : Hp := fun b => if b = a ∧ K.lookup a = none then some (.frz o (.lst xs)) else none

theorem law_callG {P : Program} {w : World} {K : PySem.W.Frag} {mg mb : Str → Option Value} {k : Nat} {fa a : Addr} {fd : FuncData} {x : Str} {sp : Sp} {s1 : Shared} {vs : List Value} {ns : List Int}
    (kin : K.In s1.heap) (gl : s1.heap.Ns mainGlobals mg) (bl : s1.heap.Ns builtinsNs mb) (bl2 : ∀ x : Str, x ≠ "__name__" → mb x = bootBuiltins x) (lim : s1.heap.NoLimit) (gens : s1.gens = #[])
    (ha : s1.heap.get? a = some { cls := .type "list", data := .seq vs.toArray }) (hi : IntsAre vs ns) (sz : ns.length ≤ sizeLine) (room : Room k callerA)
    (F : ∀ base : Heap, K.In base → base.Ns mainGlobals mg → GOk P w K mg base k fa fd [x] sp) (bind : ∀ (s : Shared) (u : Value), BindsTo s fd ⟨[u], []⟩ [(x, u)])
    (hsp : ∀ H : Hp, Only H → SqL K H a (ns.map V.int) → sp [.ref a] H (fun v _ => v = .bl true) fun _ _ _ => False) :
    codeAny (model P w) callerA (.call (.ref fa) ⟨[.ref a], []⟩) (fun r s' => r = .ok (.ret (.bool true)) ∧ OldK s1.heap s'.heap ∧ s'.os = s1.os ∧ AllBare s'.gens) s1 := by
  have rel := vals_ints hi
  have lenV := hi.length
  generalize hH : entryH K a { cls := .type "list", data := .seq vs.toArray } (ns.map V.int) = H
  have at_ : ∀ b u, H b = some u → b = a ∧ K.lookup a = none ∧ u = .frz { cls := .type "list", data := .seq vs.toArray } (.lst (ns.map V.int)) := by
    intro b u q
    rw [← hH] at q
    unfold entryH at q
    by_cases c : b = a ∧ K.lookup a = none
    · rw [if_pos c] at q
      exact ⟨c.1, c.2, (Option.some.inj q).symm⟩
    · rw [if_neg c] at q
      cases q
  have only : Only H := fun b => by
    cases q : H b with
    | none => exact .inl rfl
    | some u => exact .inr ⟨_, _, by rw [(at_ b u q).2.2]⟩
  have hok : HOk P w H s1.heap := by
    intro b u q
    obtain ⟨rfl, _, rfl⟩ := at_ b u q
    exact ⟨ha, by rw [List.length_map]; exact sz, vs, _, rel, ha⟩
  have seq : SqL K H a (ns.map V.int) := by
    cases hk : K.lookup a with
    | some o =>
      have e := kin a o hk
      rw [ha] at e
      cases e
      exact .inr ⟨_, vs.toArray, _, hk, rfl, rfl, rfl, by rw [List.size_toArray, lenV]; exact sz, by simpa using rel⟩
    | none =>
      refine .inl (.inr ⟨{ cls := .type "list", data := .seq vs.toArray }, ?_⟩)
      rw [← hH]
      exact if_pos ⟨rfl, hk⟩
  have keep : ∀ {b : Addr} {o : Obj}, s1.heap.get? b = some o → H b = none → (hidT s1.heap H).get? b = some o := fun q n => hidT_get q n
  have dictFree : ∀ {b : Addr} {o : Obj} {es : Array DictEntry} {ep : Nat}, s1.heap.get? b = some o → o.data = .dict es ep → H b = none := by
    intro b o es ep q d
    cases z : H b with
    | none => rfl
    | some u =>
      obtain ⟨rfl, _, _⟩ := at_ b u z
      rw [ha] at q
      cases q
      cases d
  have ns_ : ∀ {b : Addr} {m : Str → Option Value}, s1.heap.Ns b m → (hidT s1.heap H).Ns b m := by
    rintro b m ⟨o, es, ep, q, d, rest⟩
    exact ⟨o, es, ep, keep q (dictFree q d), d, rest⟩
  have kb : K.In (hidT s1.heap H) := by
    intro b o q
    refine keep (kin b o q) ?_
    cases z : H b with
    | none => rfl
    | some u =>
      obtain ⟨rfl, n, _⟩ := at_ b u z
      rw [n] at q
      cases q
  have md : Mod K mg (hidT s1.heap H) := ⟨kb, ns_ gl, ⟨mb, ns_ bl, bl2⟩, by obtain ⟨mc, q1, q2⟩ := lim; exact ⟨mc, ns_ q1, q2⟩⟩
  have e0 : Env0 P w K mg (hidT s1.heap H) callerA [] s1 H :=
    ⟨rfl, md, fun _ _ q => of_hidT q, Nat.le_of_eq (hidT_size _ _), trivial, (fun b hb => nomatch (show b ∈ ([] : List Addr) from hb)), hok, .of_eq gens⟩
  refine codeAny_mono ((F _ kb (ns_ gl)).go callerA [] s1 H ⟨[.ref a], []⟩ [.ref a] [.ref a] _ _ rfl room e0 (bind s1 (.ref a)) (.cons rfl .nil) (hsp H only seq)) fun r s' h => ?_
  cases r with
  | error e => exact False.elim h
  | ok fl =>
    cases fl with
    | next => exact False.elim h
    | brk => exact False.elim h
    | cont => exact False.elim h
    | ret u =>
      obtain ⟨v, H', os, bare, un, hok', ru, rfl⟩ := h
      obtain rfl : u = Value.bool true := ru
      refine ⟨rfl, OldK.of_keep fun b o q => ?_, os, bare⟩
      cases z : H b with
      | none => exact un.keep b o q z (fun c => nomatch (show b ∈ ([] : List Addr) from c)) (fun c => nomatch c)
      | some t =>
        obtain ⟨rfl, _, rfl⟩ := at_ b t z
        have z2 := (hok' b _ (un.frzs b _ _ z)).1
        rw [ha] at q
        cases q
        exact z2

theorem walk_ofG {l : PySem.W.OpenLaw} {n k : Nat} {q : Program} {loose : List Str} {XP : (Str → Option Value) → Heap → Prop} {YP : World → Heap → Prop} {d : DefRec} {K : Params → PySem.W.Frag} {sp : World → Sp} {x : Str}
    (hn : l.most = some n) (hn2 : n ≤ sizeLine) (hdf : d.params.defaults = []) (room : Room k callerA) (hY : ∀ (w : World) (h : Heap), YP w h → (K w.params).In h)
    (F : ∀ (w : World) (mg : Str → Option Value) (fa : Addr) (h : Heap), (K w.params).In h → h.Ns mainGlobals mg → mg d.name = some (.ref fa) →
      ∃ fd : FuncData, (∀ (s : Shared) (u : Value), BindsTo s fd ⟨[u], []⟩ [(x, u)]) ∧ ∀ base : Heap, (K w.params).In base → base.Ns mainGlobals mg → GOk l.prog w (K w.params) mg base k fa fd [x] (sp w))
    (hsp : ∀ (w : World) (H : Hp) (a : Addr) (ns : List Int), ns.length ≤ n → Only H → SqL (K w.params) H a (ns.map V.int) → sp w [.ref a] H (fun v _ => v = .bl true) fun _ _ _ => False) :
    PySem.W.WalkO q loose XP YP l.row.toRowW d [] (fun f vs => PySem.call f vs) := by
  refine Att.attach_call hn hdf fun w s0 s1 mg mb fa o pm cd doc a vs ns G Y ho hd hcd hmg hobj hints hlen hgens => ?_
  obtain ⟨fd, hb, hF⟩ := F w mg fa _ (hY w _ Y) G.T.g hmg
  exact law_callG (hY w _ Y) G.T.g G.T.b G.T.builtins G.T.nolimit hgens hobj hints (Nat.le_trans hlen hn2) room hF hb fun H hO hS => hsp w H a ns hlen hO hS
end Fd

set_option Elab.async false
set_option linter.all false
set_option maxRecDepth 100000
set_option maxHeartbeats 2000000
/-! What the defs speak of: ints on the heap, budgets on the heap. -/
namespace Fd
open PySem PySem.Spec PyProof.Rows L2

/-- xs[i], as an augmented store reads it -/
theorem get_list {X : Cx} : PGet X (fun o i H Q => ∃ (p : Addr) (xs : List V) (k : Nat) (v : V), o = .ref p ∧ i = .int (k : Nat) ∧ SqL X.K H p xs ∧ xs[k]? = some v ∧ Q v H) := by
  intro pins s σ H o i ov iv Q I ro ri h
  obtain ⟨p, xs, k, v, rfl, rfl, hq, hx, q⟩ := h
  cases ro
  obtain ⟨t, rfl⟩ := ri
  obtain ⟨its, r, pl, hz⟩ := I.list hq
  obtain ⟨w, ew, rw'⟩ := r.get hx
  have hk : k < xs.length := (List.getElem?_eq_some_iff.mp hx).1
  have hn := line63
  exact wpAny_getItem_list pl.isList (by omega) (by omega) (by simpa using ew) ⟨v, H, I, rw', q⟩

/-- rules with the written part named (within a comprehension's block) -/
theorem ixT {X : Cx} {K : PySem.W.Frag} (h : X.K = K) : IxR X (rIxT K) := h ▸ ix_tup
theorem ixL {X : Cx} {K : PySem.W.Frag} (h : X.K = K) : IxR X (rIxL K) := h ▸ ix_list
theorem inSeq {X : Cx} {K : PySem.W.Frag} (h : X.K = K) : OpR X (compareOp .In) (rIn K false) := h ▸ op_in_seq
/-- tuples stay -/
def Ts (H H' : Hp) : Prop := ∀ b xs, H b = some (.tup xs) → H' b = some (.tup xs)
theorem Ts.refl (H : Hp) : Ts H H := fun _ _ h => h
theorem Ts.trans {H H1 H2 : Hp} (a : Ts H H1) (b : Ts H1 H2) : Ts H H2 := fun c xs h => b c xs (a c xs h)
theorem Ts.of {H H' : Hp} (s : Same H H') : Ts H H' := fun b xs h => s b _ h
theorem Ts.upd {H : Hp} {p : Addr} {o : HO} (h : ∀ xs, H p ≠ some (.tup xs)) : Ts H (upd H p o) := fun b xs e => by
  have n : b ≠ p := fun z => h xs (z ▸ e)
  rw [upd_ne n]; exact e
theorem Ts.new {H : Hp} {p : Addr} {o : HO} (h : H p = none) : Ts H (L2.upd H p o) := Ts.upd fun xs q => by rw [h] at q; cases q
/-- all is as it was but what stands at x -/
def SmB (x : Addr) (H H' : Hp) : Prop := ∀ b o, b ≠ x → H b = some o → H' b = some o
theorem SmB.of {x : Addr} {H H' : Hp} (s : Same H H') : SmB x H H' := fun b o _ h => s b o h
theorem SmB.refl (x : Addr) (H : Hp) : SmB x H H := fun _ _ _ h => h
theorem SmB.trans {x : Addr} {H H1 H2 : Hp} (a : SmB x H H1) (b : SmB x H1 H2) : SmB x H H2 := fun c o n h => b c o n (a c o n h)
theorem SmB.upd {x : Addr} {H : Hp} {o : HO} : SmB x H (L2.upd H x o) := fun b u n e => by rw [upd_ne n]; exact e
theorem same_new {H : Hp} {p : Addr} {o : HO} (h : H p = none) : Same H (L2.upd H p o) := fun b x e => by
  rw [upd_ne (ne_of_none e h)]; exact e
/-- a store at what was not there at H0 -/
theorem same_upd' {H0 H : Hp} {p : Addr} {o : HO} (s : Same H0 H) (h : H0 p = none) : Same H0 (L2.upd H p o) := fun b x e => by
  rw [upd_ne (ne_of_none e h)]; exact s _ _ e
theorem free_of {H0 H : Hp} {p : Addr} (s : Same H0 H) (h : H p = none) : H0 p = none := s.free h

/-- ints, f 0, f 1, .. -/
def fl (n : Nat) (f : Nat → Int) : List Int := (List.range n).map f
theorem fl_len (n : Nat) (f : Nat → Int) : (fl n f).length = n := by simp [fl]
theorem fl_get {n : Nat} {f : Nat → Int} {i : Nat} (h : i < n) : (fl n f)[i]? = some (f i) := by simp [fl, h]
theorem fl_succ (n : Nat) (f : Nat → Int) : fl (n + 1) f = fl n f ++ [f n] := by simp [fl, List.range_succ]
theorem fl_congr {n : Nat} {f g : Nat → Int} (h : ∀ i, i < n → f i = g i) : fl n f = fl n g := by
  unfold fl
  exact List.map_congr_left fun i hi => h i (List.mem_range.mp hi)
theorem fl_set {n : Nat} {f : Nat → Int} {i : Nat} {x : Int} : (fl n f).set i x = fl n (fun j => if j = i then x else f j) := by
  apply List.ext_getElem?
  intro j
  by_cases hj : j < n
  · rw [fl_get hj]
    by_cases e : j = i
    · subst e
      rw [if_pos rfl, List.getElem?_set_self (by rw [fl_len]; exact hj)]
    · rw [if_neg e, List.getElem?_set_ne (Ne.symm e), fl_get hj]
  · rw [List.getElem?_eq_none (by rw [List.length_set, fl_len]; omega), List.getElem?_eq_none (by rw [fl_len]; omega)]
abbrev iv (l : List Int) : List V := l.map V.int
theorem iv_get {n : Nat} {f : Nat → Int} {i : Nat} (h : i < n) : (iv (fl n f))[i]? = some (.int (f i)) := by rw [List.getElem?_map, fl_get h]; rfl
theorem iv_len (n : Nat) (f : Nat → Int) : (iv (fl n f)).length = n := by rw [List.length_map, fl_len]
theorem iv_set {n : Nat} {f : Nat → Int} {i : Nat} {x : Int} : (iv (fl n f)).set i (.int x) = iv (fl n (fun j => if j = i then x else f j)) := by
  rw [← fl_set]
  exact List.map_set.symm
theorem iv_snoc (l : List Int) (x : Int) : iv (l ++ [x]) = iv l ++ [.int x] := by simp [iv]
theorem usedL_fl (B : List Bd) (f : Nat → Int) : usedL B f = fl B.length (U B f) := rfl

/-- budgets on the heap -/
def BudAt (H : Hp) (p : Addr) (B : List Bd) : Prop :=
  ∃ rs : List Addr, H p = some (.tup (rs.map V.ref)) ∧ rs.length = B.length ∧ ∀ (i : Nat) (b : Bd), B[i]? = some b → ∃ r, rs[i]? = some r ∧ H r = some (.tup [.str b.nm, .int b.cap, .int b.par])
theorem BudAt.ts {H H' : Hp} {p : Addr} {B : List Bd} (h : BudAt H p B) (t : Ts H H') : BudAt H' p B := by
  obtain ⟨rs, h1, h2, h3⟩ := h
  exact ⟨rs, t _ _ h1, h2, fun i b e => let ⟨r, e1, e2⟩ := h3 i b e; ⟨r, e1, t _ _ e2⟩⟩
theorem BudAt.same {H H' : Hp} {p : Addr} {B : List Bd} (h : BudAt H p B) (t : Same H H') : BudAt H' p B := h.ts (Ts.of t)
/-- the k-th budget's tuple -/
theorem BudAt.at {H : Hp} {p : Addr} {B : List Bd} (h : BudAt H p B) {k : Nat} (hk : k < B.length) :
    ∃ (xs : List V) (r : Addr), H p = some (.tup xs) ∧ xs.length = B.length ∧ atI xs (k : Int) = some (.ref r) ∧ xs[k]? = some (.ref r) ∧ H r = some (.tup [.str B[k].nm, .int B[k].cap, .int B[k].par]) := by
  obtain ⟨rs, h1, h2, h3⟩ := h
  obtain ⟨r, e1, e2⟩ := h3 k B[k] (List.getElem?_eq_getElem hk)
  have e3 : (rs.map V.ref)[k]? = some (.ref r) := by rw [List.getElem?_map, e1]; rfl
  exact ⟨_, r, h1, by rw [List.length_map, h2], atI_nat e3, e3, e2⟩
theorem BudAt.tup {H : Hp} {p : Addr} {B : List Bd} (h : BudAt H p B) : ∃ xs : List V, H p = some (.tup xs) ∧ xs.length = B.length := by
  obtain ⟨rs, h1, h2, _⟩ := h
  exact ⟨_, h1, by rw [List.length_map, h2]⟩
theorem parAt_get {B : List Bd} {k : Nat} (hk : k < B.length) : parAt B k = B[k].par := by
  unfold parAt
  rw [List.getElem?_eq_getElem hk]
theorem capAt_get {B : List Bd} {k : Nat} (hk : k < B.length) : capAt B k = B[k].cap := by
  unfold capAt
  rw [List.getElem?_eq_getElem hk]
end Fd

set_option Elab.async false
set_option linter.all false
set_option maxRecDepth 100000
set_option maxHeartbeats 2000000
namespace Fd
open PySem PySem.Spec PyProof.Rows L2 RZ
def topL (i : Nat) : Stmt := PySem.Challenge.pw_faultdue_k10_best_of_all.main.body.getD i (.Pass ⟨0, 0, 0, 0⟩)
abbrev sCell : Stmt := topL 8
abbrev sDigits : Stmt := topL 9
abbrev sDraw : Stmt := topL 10
abbrev sSame : Stmt := topL 12
theorem scCell : FnScope ["script", "k"] ["script", "k"] (defScope sCell) := ⟨rfl, rfl, rfl, by decide +kernel, rfl, by decide +kernel, by decide +kernel⟩
theorem scDigits : FnScope ["script", "first", "last", "digits", "k", "cell", "turn", "seed"] ["script", "first", "last"] (defScope sDigits) := ⟨rfl, rfl, rfl, by decide +kernel, rfl, by decide +kernel, by decide +kernel⟩
theorem scDraw : FnScope ["box", "many", "at"] ["box", "many"] (defScope sDraw) := ⟨rfl, rfl, rfl, by decide +kernel, rfl, by decide +kernel, by decide +kernel⟩
theorem scSame : FnScope ["actual", "due"] ["actual", "due"] (defScope sSame) := ⟨rfl, rfl, rfl, by decide +kernel, rfl, by decide +kernel, by decide +kernel⟩
section
variable {P : Program} {w : World} {K : PySem.W.Frag} {mg : Str → Option Value} {base : Heap}
/-! ### a cell of the script -/
def spCell (K : PySem.W.Frag) : Sp := fun vs H Q _ => ∃ (a : Addr) (ns : List Int) (k : Int), vs = [.ref a, .int k] ∧ 0 ≤ k ∧ SqL K H a (iv ns) ∧ ∀ v : Int, Q (.int v) H
theorem ok_cell {f : Addr} {fd : FuncData} (F : Fun K "_law_cell" "_law_cell" sCell f fd) (mLen : mg "len" = none) : FnOk P w K mg base CX0 1 f fd ["script", "k"] (spCell K) := by
  refine F.ok scCell (fun vs H Q E h => ?_) (fun cdv A outer s H vs Q E hr h => ?_)
  · obtain ⟨a, ns, k, rfl, _⟩ := h
    rfl
  · obtain ⟨a, ns, k, rfl, k0, hS, q⟩ := h
    refine ⟨_, pss_cons (ps_if (pt_cmpR op_lt (pv 1) (pe_callB call_len_seq (by rfl) mLen PySem.boot_len (pa_cons (pv 0) pa_nil)) (nomark _))
      (pss_one (ps_ret (pe_ix ix_list (pv 0) (pv 1) (fun _ _ => rfl)))) pss_nil) (pss_one (ps_ret pe_int)), ?_⟩
    refine ⟨_, rfl, .ref a, rfl, a, iv ns, rfl, .inl hS, _, _, rfl, rfl, _, rfl, ite2 (fun hlt => ?_) (fun _ => q 0)⟩
    have hk : k < ((iv ns).length : Int) := of_decide_eq_true hlt
    obtain ⟨m, rfl⟩ : ∃ m : Nat, k = m := ⟨k.toNat, by omega⟩
    have hm : m < ns.length := by rw [List.length_map] at hk; omega
    exact ⟨.ref a, rfl, _, rfl, a, _, m, .int ns[m], rfl, rfl, hS, atI_nat (by rw [List.getElem?_map, List.getElem?_eq_getElem hm]; rfl), q _⟩
/-! ### the digits -/
def spDigits (K : PySem.W.Frag) : Sp := fun vs H Q _ => ∃ (a : Addr) (ns : List Int) (m : Nat), vs = [.ref a, .int 0, .int m] ∧ m ≤ 1000 ∧ SqL K H a (iv ns) ∧
  ∀ H' l ds, Same H H' → H l = none → H' l = some (.lst (iv ds)) → Q (.ref l) H'
theorem ok_digits {f fC : Addr} {fd fdC : FuncData} (F : Fun K "_law_digits" "_law_digits" sDigits f fd) (FC : Fun K "_law_cell" "_law_cell" sCell fC fdC) (GC : FnOk P w K mg base CX0 1 fC fdC ["script", "k"] (spCell K))
    (bC : Binds K fdC ["script", "k"] []) (gC : mg "_law_cell" = some (.ref fC)) (mR : mg "range" = none) (mI : mg "int" = none) : FnOk P w K mg base CX0 2 f fd ["script", "first", "last"] (spDigits K) := by
  refine F.ok scDigits (fun vs H Q E h => ?_) (fun cdv A outer s H vs Q E hr h => ?_)
  · obtain ⟨a, ns, m, rfl, _⟩ := h
    rfl
  · obtain ⟨a, ns, M, rfl, hM, hS, q⟩ := h
    refine ⟨_, pss_cons (ps_set (i := 3) scDigits.nd rfl (.inl rfl) (pe_lst pa_nil))
      (pss_cons (ps_for PassesOwn.never rfl (pi_range2 (by rfl) mR (pa_cons (pv 1) (pa_cons (pv 2) pa_nil))) (pg_name (i := 4) scDigits.nd rfl (.inl rfl))
        (pss_cons (ps_set (i := 5) scDigits.nd rfl (.inl rfl) (pe_call GC hr (by rfl) gC FC.kp bC .nil pass0 (pa_cons (pv 0) (pa_cons (pv 4) pa_nil))))
        (pss_cons (ps_if (pt_cmpR op_lt (pv 5) pe_int (nomark _)) (pss_one (ps_set (i := 5) scDigits.nd rfl (.inl rfl) (pe_op op_sub pe_int (pe_op op_mul pe_int (pv 5))))) pss_nil)
        (pss_one (ps_if (pt_cmpR op_ge (pv 5) (pe_op op_pow pe_int pe_int) (nomark _))
          (pss_one (ps_for PassesOwn.never rfl (pi_range1 (by rfl) mR (pa_cons pe_int pa_nil)) (pg_name (i := 6) scDigits.nd rfl (.inl rfl))
            (pss_one (ps_if (pt_cmpR op_gt (pv 5) pe_int (nomark _))
              (pss_cons (ps_expr (pe_bm PySem.F.plainAttrs_list PySem.F.slot_list_append PySem.F.type_list_append mt_append (pv 3) (pa_cons (pe_op op_mod (pe_callTy call_int1 (by rfl) mI (by decide +kernel) (pa_cons (pv 5) pa_nil)) pe_int) pa_nil)))
                (pss_one (ps_set (i := 5) scDigits.nd rfl (.inl rfl) (pe_op op_fdiv (pv 5) pe_int))))
              pss_nil))))
          (pss_cons (ps_set (i := 7) scDigits.nd rfl (.inl rfl) (pe_op op_mod (pe_callTy call_int1 (by rfl) mI (by decide +kernel) (pa_cons (pe_op op_add (pe_op op_add (pe_op op_mul (pv 5) pe_int) (pe_op op_mul (pv 4) pe_int)) pe_int) pa_nil)) pe_int))
            (pss_one (ps_for PassesOwn.never rfl (pi_range1 (by rfl) mR (pa_cons pe_int pa_nil)) (pg_name (i := 6) scDigits.nd rfl (.inl rfl))
              (pss_cons (ps_set (i := 7) scDigits.nd rfl (.inl rfl) (pe_op op_mod (pe_callTy call_int1 (by rfl) mI (by decide +kernel) (pa_cons (pe_op op_add (pe_op op_add (pe_op op_mul (pv 7) pe_int) (pe_op op_mul pe_int (pv 6))) pe_int) pa_nil)) pe_int))
                (pss_one (ps_expr (pe_bm PySem.F.plainAttrs_list PySem.F.slot_list_append PySem.F.type_list_append mt_append (pv 3) (pa_cons (pe_op op_mod (pe_callTy call_int1 (by rfl) mI (by decide +kernel) (pa_cons (pe_op op_fdiv (pv 7) pe_int) pa_nil)) pe_int) pa_nil)))))))))))))
      (pss_one (ps_ret (pv 3)))), ?_⟩
    refine ⟨Nat.zero_le _, fun l nl => ?_⟩
    have s1 := same_new (o := .lst []) nl
    have szL : ∀ n : Nat, n ≤ 60 * 1000 → n < sizeLine := fun n h => Nat.lt_of_le_of_lt h (by decide)
    refine ⟨_, rfl, _, rfl, 0, M, rfl, ⟨by omega, by omega, by omega, by omega⟩, ?_⟩
    rw [show ((M : Int) - 0).toNat = M by omega]
    refine for_range (fun i σ H' => ∃ y4 y5 y6 y7 ds, σ = [some (.ref a), some (.int 0), some (.int M), some (.ref l), y4, y5, y6, y7] ∧ Same H H' ∧ H' l = some (.lst (iv ds)) ∧ ds.length ≤ 60 * i)
      ⟨none, none, none, none, [], rfl, s1, upd_same, Nat.zero_le _⟩ ?_ ?_
    · rintro i σ H' hi ⟨y4, y5, y6, y7, ds, rfl, sm, hl, hd⟩
      refine ⟨_, rfl, _, rfl, a, ns, 0 + (i : Int), rfl, by omega, sm.seq hS, fun c => ?_⟩
      refine ⟨_, rfl, _, _, rfl, rfl, _, rfl, ite2 (fun _ => ⟨_, rfl, 2, c, rfl, rfl, .inl ⟨by decide, by decide⟩, 1, _, rfl, rfl, ?_⟩) (fun _ => ?_)⟩
      · obtain ⟨c2, hc2⟩ : ∃ c2, c2 = 1 - 2 * c := ⟨_, rfl⟩
        dsimp only
        rw [← hc2]
        clear hc2
        refine ⟨_, rfl, 10, 18, rfl, rfl, ⟨by decide, by decide, by decide⟩, _, _, rfl, rfl, _, rfl, ite2 (fun _ => ?_) (fun _ => ?_)⟩
        · refine ⟨60, rfl, by decide, by decide, for_range (n := 60) (fun t σ H' => ∃ (c : Int) (y6 y7 : Option V) (ds : List Int), σ = [some (.ref a), some (.int 0), some (.int M), some (.ref l), some (.int (0 + (i : Int))), some (.int c), y6, y7] ∧ Same H H' ∧ H' l = some (.lst (iv ds)) ∧ ds.length ≤ 60 * i + t)
            ⟨c2, _, _, ds, rfl, sm, hl, hd⟩ ?_ ?_⟩
          · rintro t σ H' ht ⟨c, y6, y7, ds, rfl, sm, hl, hd⟩
            refine ⟨_, rfl, _, _, rfl, rfl, _, rfl, ite2 (fun _ => ?_) (fun _ => ⟨c, _, _, ds, rfl, sm, hl, by omega⟩)⟩
            refine ⟨.ref l, rfl, .inl ⟨rfl, _, SqL.of hl⟩, _, rfl, .inl ⟨_, rfl, _, _, rfl, rfl, (by show (0 : Int) < 1000; decide), l, _, _, rfl, rfl, hl, ?_, ?_⟩⟩
            · rw [List.length_map]; exact szL _ (by omega)
            · refine ⟨_, rfl, _, _, rfl, rfl, ⟨by decide, by decide⟩, _, _, _, ds ++ [c % 1000], rfl, same_upd' sm nl, ?_, ?_⟩
              · rw [upd_same, iv_snoc]
              · rw [List.length_append, List.length_singleton]; omega
          · rintro σ H' ⟨c, y6, y7, ds, rfl, sm, hl, hd⟩
            exact ⟨_, _, _, _, ds, rfl, sm, hl, by omega⟩
        · refine ⟨_, rfl, _, _, rfl, rfl, .inr ⟨by decide, by decide⟩, _, rfl, _, _, rfl, rfl, .inr ⟨by decide, by decide⟩, _, _, rfl, rfl, _, _, rfl, rfl, .inl ⟨_, rfl, _, _, rfl, rfl, (by show (0 : Int) < 2147483647; decide), ?_⟩⟩
          refine ⟨12, rfl, by decide, by decide, for_range (n := 12) (fun t σ H' => ∃ (z : Int) (y6 : Option V) (ds : List Int), σ = [some (.ref a), some (.int 0), some (.int M), some (.ref l), some (.int (0 + (i : Int))), some (.int c2), y6, some (.int z)] ∧ Same H H' ∧ H' l = some (.lst (iv ds)) ∧ ds.length ≤ 60 * i + t)
            ⟨_, _, ds, rfl, sm, hl, hd⟩ ?_ ?_⟩
          · rintro t σ H' ht ⟨z, y6, ds, rfl, sm, hl, hd⟩
            refine ⟨_, rfl, _, _, rfl, rfl, .inr ⟨by decide, by decide⟩, _, rfl, _, _, rfl, rfl, .inl ⟨by decide, by decide⟩, _, _, rfl, rfl, _, _, rfl, rfl, .inl ⟨_, rfl, _, _, rfl, rfl, (by show (0 : Int) < 2147483647; decide), ?_⟩⟩
            refine ⟨.ref l, rfl, .inl ⟨rfl, _, SqL.of hl⟩, _, rfl, _, _, rfl, rfl, ⟨by decide, by decide⟩, .inl ⟨_, rfl, _, _, rfl, rfl, (by show (0 : Int) < 1000; decide), l, _, _, rfl, rfl, hl, ?_, ?_⟩⟩
            · rw [List.length_map]; exact szL _ (by omega)
            · refine ⟨_, _, ds ++ [(z * 16807 + 7 * (0 + (t : Int)) + 1) % 2147483647 / 997 % 1000], rfl, same_upd' sm nl, ?_, ?_⟩
              · rw [upd_same, iv_snoc]
              · rw [List.length_append, List.length_singleton]; omega
          · rintro σ H' ⟨z, y6, ds, rfl, sm, hl, hd⟩
            exact ⟨_, _, _, _, ds, rfl, sm, hl, by omega⟩
      · obtain ⟨c2, hc2⟩ : ∃ c2, c2 = c := ⟨_, rfl⟩
        rw [← hc2]
        clear hc2
        refine ⟨_, rfl, 10, 18, rfl, rfl, ⟨by decide, by decide, by decide⟩, _, _, rfl, rfl, _, rfl, ite2 (fun _ => ?_) (fun _ => ?_)⟩
        · refine ⟨60, rfl, by decide, by decide, for_range (n := 60) (fun t σ H' => ∃ (c : Int) (y6 y7 : Option V) (ds : List Int), σ = [some (.ref a), some (.int 0), some (.int M), some (.ref l), some (.int (0 + (i : Int))), some (.int c), y6, y7] ∧ Same H H' ∧ H' l = some (.lst (iv ds)) ∧ ds.length ≤ 60 * i + t)
            ⟨c2, _, _, ds, rfl, sm, hl, hd⟩ ?_ ?_⟩
          · rintro t σ H' ht ⟨c, y6, y7, ds, rfl, sm, hl, hd⟩
            refine ⟨_, rfl, _, _, rfl, rfl, _, rfl, ite2 (fun _ => ?_) (fun _ => ⟨c, _, _, ds, rfl, sm, hl, by omega⟩)⟩
            refine ⟨.ref l, rfl, .inl ⟨rfl, _, SqL.of hl⟩, _, rfl, .inl ⟨_, rfl, _, _, rfl, rfl, (by show (0 : Int) < 1000; decide), l, _, _, rfl, rfl, hl, ?_, ?_⟩⟩
            · rw [List.length_map]; exact szL _ (by omega)
            · refine ⟨_, rfl, _, _, rfl, rfl, ⟨by decide, by decide⟩, _, _, _, ds ++ [c % 1000], rfl, same_upd' sm nl, ?_, ?_⟩
              · rw [upd_same, iv_snoc]
              · rw [List.length_append, List.length_singleton]; omega
          · rintro σ H' ⟨c, y6, y7, ds, rfl, sm, hl, hd⟩
            exact ⟨_, _, _, _, ds, rfl, sm, hl, by omega⟩
        · refine ⟨_, rfl, _, _, rfl, rfl, .inr ⟨by decide, by decide⟩, _, rfl, _, _, rfl, rfl, .inr ⟨by decide, by decide⟩, _, _, rfl, rfl, _, _, rfl, rfl, .inl ⟨_, rfl, _, _, rfl, rfl, (by show (0 : Int) < 2147483647; decide), ?_⟩⟩
          refine ⟨12, rfl, by decide, by decide, for_range (n := 12) (fun t σ H' => ∃ (z : Int) (y6 : Option V) (ds : List Int), σ = [some (.ref a), some (.int 0), some (.int M), some (.ref l), some (.int (0 + (i : Int))), some (.int c2), y6, some (.int z)] ∧ Same H H' ∧ H' l = some (.lst (iv ds)) ∧ ds.length ≤ 60 * i + t)
            ⟨_, _, ds, rfl, sm, hl, hd⟩ ?_ ?_⟩
          · rintro t σ H' ht ⟨z, y6, ds, rfl, sm, hl, hd⟩
            refine ⟨_, rfl, _, _, rfl, rfl, .inr ⟨by decide, by decide⟩, _, rfl, _, _, rfl, rfl, .inl ⟨by decide, by decide⟩, _, _, rfl, rfl, _, _, rfl, rfl, .inl ⟨_, rfl, _, _, rfl, rfl, (by show (0 : Int) < 2147483647; decide), ?_⟩⟩
            refine ⟨.ref l, rfl, .inl ⟨rfl, _, SqL.of hl⟩, _, rfl, _, _, rfl, rfl, ⟨by decide, by decide⟩, .inl ⟨_, rfl, _, _, rfl, rfl, (by show (0 : Int) < 1000; decide), l, _, _, rfl, rfl, hl, ?_, ?_⟩⟩
            · rw [List.length_map]; exact szL _ (by omega)
            · refine ⟨_, _, ds ++ [(z * 16807 + 7 * (0 + (t : Int)) + 1) % 2147483647 / 997 % 1000], rfl, same_upd' sm nl, ?_, ?_⟩
              · rw [upd_same, iv_snoc]
              · rw [List.length_append, List.length_singleton]; omega
          · rintro σ H' ⟨z, y6, ds, rfl, sm, hl, hd⟩
            exact ⟨_, _, _, _, ds, rfl, sm, hl, by omega⟩
    · rintro σ H' ⟨y4, y5, y6, y7, ds, rfl, sm, hl, hd⟩
      exact ⟨_, rfl, q H' l ds sm nl hl⟩
/-! ### a draw -/
/-- box = [digits, place] -/
def BoxAt (H : Hp) (b D : Addr) (ds : List Int) (at_ : Nat) : Prop := H b = some (.lst [.ref D, .int at_]) ∧ H D = some (.lst (iv ds))
theorem BoxAt.ne {H : Hp} {b D : Addr} {ds : List Int} {n : Nat} (h : BoxAt H b D ds n) : D ≠ b := by
  refine ne_of h.2 h.1 fun e => ?_
  injection e with e
  cases ds with
  | nil => cases e
  | cons x r => cases e
theorem BoxAt.bump {H : Hp} {b D : Addr} {ds : List Int} {n : Nat} (h : BoxAt H b D ds n) : BoxAt (upd H b (.lst [.ref D, .int (n + 1 : Nat)])) b D ds (n + 1) :=
  ⟨upd_same, by rw [upd_ne h.ne]; exact h.2⟩
theorem BoxAt.same {H H' : Hp} {b D : Addr} {ds : List Int} {n : Nat} (h : BoxAt H b D ds n) (s : Same H H') : BoxAt H' b D ds n := ⟨s _ _ h.1, s _ _ h.2⟩
def spDraw : Sp := fun vs H Q _ => ∃ (b D : Addr) (ds : List Int) (n : Nat) (m : Int), vs = [.ref b, .int m] ∧ BoxAt H b D ds n ∧ 0 < m ∧
  ∀ d : Int, 0 ≤ d → d < m → Q (.int d) (upd H b (.lst [.ref D, .int (n + 1 : Nat)]))
theorem ok_draw {f : Addr} {fd : FuncData} (F : Fun K "_law_draw" "_law_draw" sDraw f fd) (mLen : mg "len" = none) (mI : mg "int" = none) : FnOk P w K mg base CX0 1 f fd ["box", "many"] spDraw := by
  refine F.ok scDraw (fun vs H Q E h => ?_) (fun cdv A outer s H vs Q E hr h => ?_)
  · obtain ⟨b, D, ds, n, m, rfl, _⟩ := h
    rfl
  · obtain ⟨b, D, ds, n, m, rfl, hB, m0, q⟩ := h
    refine ⟨_, pss_cons (ps_set (i := 2) scDraw.nd rfl (.inl rfl) (pe_ix ix_list (pv 0) pe_int (fun _ _ => rfl)))
      (pss_cons (ps_asg (pe_op op_add (pv 2) pe_int) (pg_sub (pv 0) pe_int set_list))
      (pss_cons (ps_if (pt_cmpR op_lt (pv 2) (pe_callB call_len_seq (by rfl) mLen PySem.boot_len (pa_cons (pe_ix ix_list (pv 0) pe_int (fun _ _ => rfl)) pa_nil)) (nomark _))
        (pss_one (ps_ret (pe_op op_mod (pe_callTy call_int1 (by rfl) mI (by decide +kernel) (pa_cons (pe_ix ix_list (pe_ix ix_list (pv 0) pe_int (fun _ _ => rfl)) (pv 2) (fun _ _ => rfl)) pa_nil)) (pv 1)))) pss_nil)
      (pss_one (ps_ret pe_int)))), ?_⟩
    refine ⟨.ref b, rfl, b, _, 1, .int n, rfl, rfl, SqL.of hB.1, rfl, ?_⟩
    refine ⟨_, rfl, _, _, rfl, rfl, .ref b, rfl, b, _, 1, 1, rfl, rfl, hB.1, rfl, ?_⟩
    have e1 : ((n : Int) + 1) = ((n + 1 : Nat) : Int) := by omega
    have hU : upd H b (.lst ([V.ref D, V.int n].set 1 (V.int ((n : Int) + 1)))) = upd H b (.lst [.ref D, .int (n + 1 : Nat)]) := by rw [e1]; rfl
    have hB2 := hB.bump
    show (tSeq _ _) _ _ (upd H b (.lst ([V.ref D, V.int n].set 1 (V.int ((n : Int) + 1)))))
    rw [hU]
    refine ⟨_, rfl, .ref b, rfl, b, _, 0, .ref D, rfl, rfl, SqL.of hB2.1, rfl, D, _, rfl, .inl (SqL.of hB2.2), _, _, rfl, rfl, _, rfl, ite2 (fun hlt => ?_) (fun _ => q 0 (Int.le_refl 0) m0)⟩
    have hn : (n : Int) < ((iv ds).length : Int) := of_decide_eq_true hlt
    have hn' : n < ds.length := by rw [List.length_map] at hn; omega
    refine ⟨.ref b, rfl, b, _, 0, .ref D, rfl, rfl, SqL.of hB2.1, rfl, _, rfl, D, _, n, .int ds[n], rfl, rfl, SqL.of hB2.2, atI_nat (by rw [List.getElem?_map, List.getElem?_eq_getElem hn']; rfl), .inl ⟨_, rfl, .int m, rfl, _, _, rfl, rfl, m0, ?_⟩⟩
    exact q _ (Int.emod_nonneg _ (by omega)) (Int.emod_lt_of_pos _ m0)
/-! ### the same, by repr -/
def spSame (K : PySem.W.Frag) : Sp := fun vs H Q _ => ∃ (x y : V) (d : PyData), vs = [x, y] ∧ Dp K H x d ∧ Dp K H y d ∧ smallD d ∧ Q (.bl true) H
theorem ok_same {f : Addr} {fd : FuncData} (F : Fun K "_law_same" "_law_same" sSame f fd) (mR : mg "repr" = none) : GOk P w K mg base 1 f fd ["actual", "due"] (spSame K) := by
  refine gok_of F scSame (fun vs H Q E h => ?_) (fun cdv A outer s H vs Q E hg hr h => ?_)
  · obtain ⟨x, y, d, rfl, _⟩ := h
    rfl
  · obtain ⟨x, y, d, rfl, h1, h2, h3, q⟩ := h
    refine ⟨_, pss_one (ps_ret (pe_cmpR op_eq (pe_callB (call_repr_dp hg hr.units) (by rfl) mR (by decide +kernel) (pa_cons (pv 0) pa_nil)) (pe_callB (call_repr_dp hg hr.units) (by rfl) mR (by decide +kernel) (pa_cons (pv 1) pa_nil)) (nomark _))), ?_⟩
    refine ⟨x, rfl, x, d, rfl, h1, h3, y, rfl, y, d, rfl, h2, h3, rfl, ?_⟩
    rw [decide_eq_true rfl]
    exact q
end
end Fd

set_option Elab.async false
set_option linter.all false
set_option maxRecDepth 100000
set_option maxHeartbeats 4000000
/-! tuple * int, any int that is small; min of two ints -/
namespace Fd
open PySem PySem.Spec PyProof.Rows L2
open AutoSeq1 (wpAny_loadPart')
theorem rep_one (l : Addr) (items : Array Value) (n : Nat) (dd : Option Addr) (sl : Array (Option Value)) (u : Tok) :
    Meets (Builtin.«tuple.__mul__» ⟨[.ref l, .int 1 u], []⟩) (fun _ R s => s.heap.get? l = some { cls := .type "tuple", dict := dd, data := .seq items n, slots := sl } ∧ R (.ok (.ret (Value.ref l))) s) :=
  .of_wp fun prog w A R s h => by
    obtain ⟨hp, g, d, tk, os⟩ := s
    obtain ⟨hl, h⟩ := h
    have f1 := AutoSeq1.idx_int
    wp_walk using wpAny_loadPart' hl
    exact ⟨_, rfl, h⟩
theorem rep_nul (l : Addr) (items : Array Value) (n : Nat) (dd : Option Addr) (sl : Array (Option Value)) (u : Tok) (hc0 : items.isEmpty = false) :
    Meets (Builtin.«tuple.__mul__» ⟨[.ref l, .int 0 u], []⟩) (fun _ R s => s.heap.get? l = some { cls := .type "tuple", dict := dd, data := .seq items n, slots := sl } ∧
      R (.ok (.ret (Value.ref s.heap.objs.size))) { s with heap := s.heap.push { cls := Value.type "tuple", data := Data.seq #[] }, toks := s.toks }) :=
  .of_wp fun prog w A R s h => by
    obtain ⟨hp, g, d, tk, os⟩ := s
    obtain ⟨hl, h⟩ := h
    have f1 := AutoSeq1.idx_int
    have c1 : (items.isEmpty || (0 : Int) == 1) = false := by rw [hc0]; rfl
    wp_walk using wpAny_loadPart' hl
    repeat (first
      | (refine wpAny_ite_false (decide_eq_false (by rw [c1]; exact Bool.false_ne_true)) ?_; wp_walk using wpAny_loadPart' hl))
    exact ⟨_, rfl, h⟩
def rRepA (K : PySem.W.Frag) : R2 := fun x y H Q => ∃ l k xs, x = .ref l ∧ y = .int k ∧ SqT K H l xs ∧ xs ≠ [] ∧ 0 ≤ k ∧ k ≤ 1000 ∧ xs.length ≤ 1000 ∧ (k = 1 → Q (.ref l) H) ∧
  (k ≠ 1 → ∀ p, H p = none → Q (.ref p) (upd H p (.tup (List.replicate k.toNat xs).flatten)))
section
variable {X : Cx}
theorem op_repA : OpR X (binaryOp .Mult) (rRepA X.K) := by
  intro pins s σ H x y v u Q I rx ry h
  obtain ⟨l, k, xs, rfl, rfl, hT, hne, h1, h2, hz, q1, q⟩ := h
  by_cases h3 : 2 ≤ k
  · exact op_repT pins s σ H _ _ v u Q I rx ry ⟨l, k, xs, rfl, rfl, hT, hne, h3, h2, hz, q (by omega)⟩
  cases rx
  obtain ⟨t, rfl⟩ := ry
  obtain ⟨its, r, ⟨⟨cls, dd, data, sl⟩, ho, hc, n, hd⟩, hs⟩ := I.tuple hT
  simp only at hc hd
  subst hc hd
  have hn : its ≠ [] := fun e => hne (by
    have hle := r.length
    rw [e] at hle
    exact List.eq_nil_of_length_eq_zero hle)
  have hi : its.toArray.isEmpty = false := by
    cases its with
    | nil => exact absurd rfl hn
    | cons a b => rfl
  have hk : k = 0 ∨ k = 1 := by omega
  rcases hk with rfl | rfl
  · refine wpAny_binaryOp_repeat_ref (T := "tuple") (U := "int") (by decide) ⟨_, ho, rfl⟩ (fun s' => typeIs_int s' 0 t) noFill_tuple_mul F.fills_int_mul F.slot_int_rmul repeat_tuple F.slot_int_index.lookup
      (call_meets F.slot_int_rmul (typeIs_int s 0 t) F.entry_int_rmul (F.args_int_rmul_2 _ _) (int_rmul_tuple 0 t l its.toArray n dd sl)
        ⟨ho, rfl, ⟨_, ho, rfl⟩, call_meets F.slot_tuple_mul ⟨_, ho, rfl⟩ F.entry_tuple_mul (F.args_tuple_mul_2 _ _) (rep_nul l its.toArray n dd sl t hi) ⟨ho, ?_⟩⟩)
    refine ⟨.ref s.heap.objs.size, _, I.laid (t' := s.toks) (o := .tup (List.replicate (0 : Int).toNat xs).flatten) (fun b ob q => Heap.get?_push_of_some _ q) (Nat.le_refl _) ?_, rfl, q (by decide) _ (I.hok.fresh (Nat.le_refl _))⟩
    exact ⟨Nat.zero_le _, [], .nil, IsTup.new _ _⟩
  · refine wpAny_binaryOp_repeat_ref (T := "tuple") (U := "int") (by decide) ⟨_, ho, rfl⟩ (fun s' => typeIs_int s' 1 t) noFill_tuple_mul F.fills_int_mul F.slot_int_rmul repeat_tuple F.slot_int_index.lookup
      (call_meets F.slot_int_rmul (typeIs_int s 1 t) F.entry_int_rmul (F.args_int_rmul_2 _ _) (int_rmul_tuple 1 t l its.toArray n dd sl)
        ⟨ho, rfl, ⟨_, ho, rfl⟩, call_meets F.slot_tuple_mul ⟨_, ho, rfl⟩ F.entry_tuple_mul (F.args_tuple_mul_2 _ _) (rep_one l its.toArray n dd sl t) ⟨ho, ?_⟩⟩)
    exact ⟨.ref l, H, I, rfl, q1 rfl⟩
def rMin2 : List V → Hp → VK → Prop := fun vs H Q => ∃ a b : Int, vs = [.int a, .int b] ∧ Q (.int (min a b)) H
theorem cr_min2 (hc : X.calm = true) : CallR X (.builtin "min") rMin2 := by
  intro pins s σ H vs us Q I r h
  obtain ⟨a, b, rfl, q⟩ := h
  obtain ⟨u1, u2, rfl, ri, rj⟩ := vals2 r
  obtain ⟨t1, rfl⟩ := ri
  obtain ⟨t2, rfl⟩ := rj
  refine min_two_ints (I.ok.hd hc) fun h' tk hk => ?_
  refine ⟨.int (min a b), H, I.kept hk, ?_, q⟩
  by_cases z : b < a
  · rw [if_pos z, Int.min_eq_right (by omega)]
    exact ⟨_, rfl⟩
  · rw [if_neg z, Int.min_eq_left (by omega)]
    exact ⟨_, rfl⟩
end
end Fd

set_option Elab.async false
set_option linter.all false
set_option maxRecDepth 100000
set_option maxHeartbeats 4000000
/-! sum of a tuple of ints -/
namespace Fd
open PySem PySem.Spec PyProof.Rows L2
section
variable {prog : Program} {w : World} {A : Around} {E : Value → Shared → Prop} {s : Shared} {Q : Value → Shared → Prop}
theorem sum_rawT {t : Addr} {its : List Value} {ns : List Int} (hh : A.handled = none) (ht : IsTup s.heap t its.toArray) (hi : IntsAre its ns)
    (h : ∀ h' tk t', (∀ b o, s.heap.get? b = some o → h'.get? b = some o) → Q (.int ns.sum t') { s with heap := h', toks := tk }) : wpAny (model prog w) A (call (.builtin "sum") [.ref t]) Q E s := by
  obtain ⟨xs, e⟩ := hi.allInts.items
  have hn : numsOf (intItems xs).toList = ns := by rw [← e]; exact hi.numsOf
  rw [nums_intItems] at hn
  rw [e] at ht
  have hlt : t < s.heap.objs.size := by obtain ⟨_, e, _⟩ := ht; exact Heap.lt_size e
  have hT : s.heap.IsTuple t (intItems xs) := ht
  refine call_sum_walkG (wpAny_pyIter_tuple hT ?_)
  refine ⟨_, [s.heap.objs.size, t], [s.heap.objs.size], _, _, _, numAt xs, rfl, Walks.tuple (A := A.in1) hh _ t (Nat.ne_of_lt hlt) (intItems xs),
    ⟨⟨_, Heap.get?_push_size _ rfl, rfl, rfl⟩, hT.push _⟩, fun b hb => ?_, fun _ _ => intItems_at, fun h' tk t' hk => ?_⟩
  · show b < (s.heap.push _).objs.size
    rw [Heap.size_push]
    rcases List.mem_cons.mp hb with rfl | hb
    · exact Nat.lt_succ_self _
    · rcases List.mem_cons.mp hb with rfl | hb
      · exact Nat.lt_succ_of_lt hlt
      · cases hb
  · have old : ∀ c o, s.heap.get? c = some o → h'.get? c = some o := fun c o e => by
      refine hk c o (fun hm => ?_) (Heap.get?_push_of_some _ e)
      have e1 := List.mem_singleton.mp hm
      have := Heap.lt_size e
      rw [e1] at this
      exact Nat.lt_irrefl _ this
    have q := h h' tk t' old
    have e2 : preSum (numAt xs) (intItems xs).size = ns.sum := by
      have e3 : (intItems xs).size = xs.size := by simp [intItems]
      rw [e3, preSum_eq, List.take_of_length_le (by simp), hn]
    rw [e2]
    exact q
end
def rSumT (K : PySem.W.Frag) : List V → Hp → VK → Prop := fun vs H Q => ∃ (a : Addr) (ns : List Int), vs = [V.ref a] ∧ SqT K H a (ns.map V.int) ∧ Q (.int ns.sum) H
section
variable {X : Cx}
theorem cr_sumT (hc : X.calm = true) : CallR X (.builtin "sum") (rSumT X.K) := by
  intro pins s σ H vs us Q I r h
  obtain ⟨a, ns, rfl, hs, q⟩ := h
  obtain ⟨its, rv, hl, _⟩ := I.tuple hs
  rw [Vals.ref1 r]
  exact sum_rawT (I.ok.hd hc) hl rv.ints fun h' tk t' hk => ⟨.int _, H, I.kept hk, ⟨_, rfl⟩, q⟩
end
end Fd

set_option Elab.async false
set_option linter.all false
set_option maxRecDepth 100000
set_option maxHeartbeats 4000000
/-! max of a tuple of ints -/
namespace Fd
open PySem PySem.Spec PyProof.Rows L2
section
variable {prog : Program} {w : World} {A : Around} {E : Value → Shared → Prop} {s : Shared} {Q : Value → Shared → Prop}
theorem max_rawT {t : Addr} {its : List Value} {ns : List Int} (hh : A.handled = none) (ht : IsTup s.heap t its.toArray) (hi : IntsAre its ns) (hne : 0 < ns.length)
    (h : ∀ h' tk m t', (∀ b o, s.heap.get? b = some o → h'.get? b = some o) → m ∈ ns → (∀ a, a ∈ ns → a ≤ m) → Q (.int m t') { s with heap := h', toks := tk }) : wpAny (model prog w) A (call (.builtin "max") [.ref t]) Q E s := by
  obtain ⟨xs, e⟩ := hi.allInts.items
  have hn : numsOf (intItems xs).toList = ns := by rw [← e]; exact hi.numsOf
  rw [nums_intItems] at hn
  subst hn
  rw [e] at ht
  have pos : 0 < xs.size := by simpa using hne
  have hlt : t < s.heap.objs.size := by obtain ⟨_, e, _⟩ := ht; exact Heap.lt_size e
  have hT : s.heap.IsTuple t (intItems xs) := ht
  refine call_max_walk (wpAny_pyIter_tuple hT ?_)
  refine ⟨_, [s.heap.objs.size, t], [s.heap.objs.size], _, _, _, _, rfl, Walks.tuple (A := A.in1) hh _ t (Nat.ne_of_lt hlt) (intItems xs),
    ⟨⟨_, Heap.get?_push_size _ rfl, rfl, rfl⟩, hT.push _⟩, fun b hb => ?_, by simpa [intItems] using pos, CmpOf.ints_gt (numAt xs) (fun _ _ => intItems_at), fun v h' tk hP hk => ?_⟩
  · show b < (s.heap.push _).objs.size
    rw [Heap.size_push]
    rcases List.mem_cons.mp hb with rfl | hb
    · exact Nat.lt_succ_self _
    · rcases List.mem_cons.mp hb with rfl | hb
      · exact Nat.lt_succ_of_lt hlt
      · cases hb
  · have old : ∀ c o, s.heap.get? c = some o → h'.get? c = some o := fun c o e => by
      refine hk c o (fun hm => ?_) (Heap.get?_push_of_some _ e)
      have e1 := List.mem_singleton.mp hm
      have := Heap.lt_size e
      rw [e1] at this
      exact Nat.lt_irrefl _ this
    have hv : (intItems xs)[argBest (fun i j => decide (numAt xs i > numAt xs j)) (xs.size - 1)]? = some v := by simpa [intItems] using hP
    obtain ⟨u, rfl⟩ := intItems_at hv
    obtain ⟨b1, b2⟩ := argBest_gt (numAt xs) (xs.size - 1)
    refine h h' tk _ u old ?_ fun a ha => ?_
    · rw [numAt_eq]; exact PySem.getD_mem (by rw [List.length_map, Array.length_toList]; omega)
    · obtain ⟨j, hj, rfl⟩ := mem_getD ha
      rw [List.length_map, Array.length_toList] at hj
      rw [← numAt_eq]; exact b2 j (by omega)
end
def rMaxT (K : PySem.W.Frag) : List V → Hp → VK → Prop := fun vs H Q => ∃ (a : Addr) (ns : List Int), vs = [V.ref a] ∧ SqT K H a (ns.map V.int) ∧ 0 < ns.length ∧ ∀ m, m ∈ ns → (∀ y, y ∈ ns → y ≤ m) → Q (.int m) H
section
variable {X : Cx}
theorem cr_maxT (hc : X.calm = true) : CallR X (.builtin "max") (rMaxT X.K) := by
  intro pins s σ H vs us Q I r h
  obtain ⟨a, ns, rfl, hs, hne, q⟩ := h
  obtain ⟨its, rv, hl, _⟩ := I.tuple hs
  rw [Vals.ref1 r]
  exact max_rawT (I.ok.hd hc) hl rv.ints hne fun h' tk m t' hk h1 h2 => ⟨.int _, H, I.kept hk, ⟨_, rfl⟩, q m h1 h2⟩
end
end Fd

set_option Elab.async false
set_option linter.all false
set_option maxRecDepth 100000
set_option maxHeartbeats 4000000
/-! min of a tuple of ints; min of a list of pairs of ints -/
namespace Fd
open PySem PySem.Spec PyProof.Rows L2
section
variable {prog : Program} {w : World} {A : Around} {E : Value → Shared → Prop} {s : Shared} {Q : Value → Shared → Prop}
theorem min_rawT {t : Addr} {its : List Value} {ns : List Int} (hh : A.handled = none) (ht : IsTup s.heap t its.toArray) (hi : IntsAre its ns) (hne : 0 < ns.length)
    (h : ∀ h' tk m t', (∀ b o, s.heap.get? b = some o → h'.get? b = some o) → m ∈ ns → (∀ a, a ∈ ns → m ≤ a) → Q (.int m t') { s with heap := h', toks := tk }) : wpAny (model prog w) A (call (.builtin "min") [.ref t]) Q E s := by
  obtain ⟨xs, e⟩ := hi.allInts.items
  have hn : numsOf (intItems xs).toList = ns := by rw [← e]; exact hi.numsOf
  rw [nums_intItems] at hn
  subst hn
  rw [e] at ht
  have pos : 0 < xs.size := by simpa using hne
  have hlt : t < s.heap.objs.size := by obtain ⟨_, e, _⟩ := ht; exact Heap.lt_size e
  have hT : s.heap.IsTuple t (intItems xs) := ht
  refine call_min_walk (wpAny_pyIter_tuple hT ?_)
  refine ⟨_, [s.heap.objs.size, t], [s.heap.objs.size], _, _, _, _, rfl, Walks.tuple (A := A.in1) hh _ t (Nat.ne_of_lt hlt) (intItems xs),
    ⟨⟨_, Heap.get?_push_size _ rfl, rfl, rfl⟩, hT.push _⟩, fun b hb => ?_, by simpa [intItems] using pos, CmpOf.ints_lt (numAt xs) (fun _ _ => intItems_at), fun v h' tk hP hk => ?_⟩
  · show b < (s.heap.push _).objs.size
    rw [Heap.size_push]
    rcases List.mem_cons.mp hb with rfl | hb
    · exact Nat.lt_succ_self _
    · rcases List.mem_cons.mp hb with rfl | hb
      · exact Nat.lt_succ_of_lt hlt
      · cases hb
  · have old : ∀ c o, s.heap.get? c = some o → h'.get? c = some o := fun c o e => by
      refine hk c o (fun hm => ?_) (Heap.get?_push_of_some _ e)
      have e1 := List.mem_singleton.mp hm
      have := Heap.lt_size e
      rw [e1] at this
      exact Nat.lt_irrefl _ this
    have hv : (intItems xs)[argBest (fun i j => decide (numAt xs i < numAt xs j)) (xs.size - 1)]? = some v := by simpa [intItems] using hP
    obtain ⟨u, rfl⟩ := intItems_at hv
    obtain ⟨b1, b2⟩ := argBest_lt (numAt xs) (xs.size - 1)
    refine h h' tk _ u old ?_ fun a ha => ?_
    · rw [numAt_eq]; exact PySem.getD_mem (by rw [List.length_map, Array.length_toList]; omega)
    · obtain ⟨j, hj, rfl⟩ := mem_getD ha
      rw [List.length_map, Array.length_toList] at hj
      rw [← numAt_eq]; exact b2 j (by omega)
end
def rMinT (K : PySem.W.Frag) : List V → Hp → VK → Prop := fun vs H Q => ∃ (a : Addr) (ns : List Int), vs = [V.ref a] ∧ SqT K H a (ns.map V.int) ∧ 0 < ns.length ∧ ∀ m, m ∈ ns → (∀ y, y ∈ ns → m ≤ y) → Q (.int m) H
section
variable {X : Cx}
theorem cr_minT (hc : X.calm = true) : CallR X (.builtin "min") (rMinT X.K) := by
  intro pins s σ H vs us Q I r h
  obtain ⟨a, ns, rfl, hs, hne, q⟩ := h
  obtain ⟨its, rv, hl, _⟩ := I.tuple hs
  rw [Vals.ref1 r]
  exact min_rawT (I.ok.hd hc) hl rv.ints hne fun h' tk m t' hk h1 h2 => ⟨.int _, H, I.kept hk, ⟨_, rfl⟩, q m h1 h2⟩
end

/-! ### a list of pairs -/
def lexLe (x y : Int × Int) : Prop := x.1 < y.1 ∨ (x.1 = y.1 ∧ x.2 ≤ y.2)
theorem best_first (f : Nat → Int × Int) (bt : Nat → Nat → Bool) (n : Nat) (hb : ∀ i j, i ≤ n → j ≤ n → bt i j = decide ((f i).1 < (f j).1 ∨ ((f i).1 = (f j).1 ∧ (f i).2 < (f j).2))) :
    ∀ m, m ≤ n → argBest bt m ≤ m ∧ ∀ i, i ≤ m → lexLe (f (argBest bt m)) (f i)
  | 0, _ => ⟨Nat.le_refl _, fun i hi => by
    obtain rfl : i = 0 := by omega
    exact .inr ⟨rfl, Int.le_refl _⟩⟩
  | m + 1, hm => by
    obtain ⟨h1, h2⟩ := best_first f bt n hb m (by omega)
    have e0 : argBest bt (m + 1) = if bt (m + 1) (argBest bt m) = true then m + 1 else argBest bt m := rfl
    have e1 := hb (m + 1) (argBest bt m) hm (by omega)
    by_cases z : bt (m + 1) (argBest bt m) = true
    · rw [if_pos z] at e0
      rw [e0]
      rw [e1] at z
      have z := of_decide_eq_true z
      refine ⟨Nat.le_refl _, fun i hi => ?_⟩
      by_cases e : i = m + 1
      · subst e; exact .inr ⟨rfl, Int.le_refl _⟩
      · have q := h2 i (by omega)
        unfold lexLe at *
        omega
    · rw [if_neg z] at e0
      rw [e0]
      rw [e1] at z
      have z : ¬ ((f (m + 1)).1 < (f (argBest bt m)).1 ∨ ((f (m + 1)).1 = (f (argBest bt m)).1 ∧ (f (m + 1)).2 < (f (argBest bt m)).2)) := fun q => z (decide_eq_true q)
      refine ⟨by omega, fun i hi => ?_⟩
      by_cases e : i = m + 1
      · rw [e]
        unfold lexLe
        omega
      · exact h2 i (by omega)
def pairD (p : Int × Int) : PyData := .tuple [.int p.1, .int p.2]
theorem pair_lt (p q : Int × Int) : PySem.W.dataLt (pairD p) (pairD q) = decide (p.1 < q.1 ∨ (p.1 = q.1 ∧ p.2 < q.2)) := PySem.W.dataLt_ii _ _ _ _
theorem pairs_alike (l : List (Int × Int)) : PySem.W.AlikeAll (l.map pairD) := by
  refine ⟨fun x hx y hy => ?_, fun x hx => ?_⟩
  · obtain ⟨p, _, rfl⟩ := List.mem_map.mp hx
    obtain ⟨q, _, rfl⟩ := List.mem_map.mp hy
    rfl
  · obtain ⟨p, _, rfl⟩ := List.mem_map.mp hx
    exact nofun
theorem pairs_depth (l : List (Int × Int)) : PyData.depthAll (l.map pairD) ≤ 2 := by
  induction l with
  | nil => exact Nat.zero_le _
  | cons p r ih => exact Nat.max_le.mpr ⟨by simp [pairD, PyData.depth, PyData.depthAll], ih⟩
def rMinP (K : PySem.W.Frag) : List V → Hp → VK → Prop := fun vs H Q => ∃ (a : Addr) (rs : List Addr) (k : Nat → Int × Int), vs = [V.ref a] ∧ SqL K H a (rs.map V.ref) ∧ 0 < rs.length ∧
  (∀ i r, rs[i]? = some r → H r = some (.tup [.int (k i).1, .int (k i).2])) ∧ ∀ i r, rs[i]? = some r → (∀ j, j < rs.length → lexLe (k i) (k j)) → Q (.ref r) H
section
variable {X : Cx}
theorem reads_pairs {pins : List (Addr × Obj)} {s : Shared} {σ : L2.St} {H : Hp} (I : L2.Inv X pins σ H s) : ∀ (rs : List Addr) (its : List Value) (k : Nat → Int × Int), Vals (rs.map V.ref) its →
    (∀ i r, rs[i]? = some r → H r = some (.tup [.int (k i).1, .int (k i).2])) → ∃ as, ReadsAll s.heap its ((List.range rs.length).map fun i => pairD (k i)) as
  | [], its, k, rv, _ => by
    cases rv
    exact ⟨_, .nil⟩
  | r :: rs, its, k, rv, h => by
    cases rv with
    | cons r1 r2 =>
      obtain ⟨as, e⟩ := Dp.reads I (pairD (k 0)) (.ref r) _ (.tup (SqT.of (h 0 r rfl)) (.cons (.int _) (.cons (.int _) .nil))) r1
      obtain ⟨bs, e2⟩ := reads_pairs I rs _ (fun i => k (i + 1)) r2 fun i r' q => h (i + 1) r' q
      rw [List.length_cons, List.range_succ_eq_map, List.map_cons, List.map_map]
      exact ⟨_, .cons e e2⟩
theorem cr_minP (hc : X.calm = true) (hu : X.A.units + 64 < cLine) : CallR X (.builtin "min") (rMinP X.K) := by
  intro pins s σ H vs us Q I r h
  obtain ⟨a, rs, k, rfl, hs, hne, hk, q⟩ := h
  obtain ⟨its, rv, hl, hz⟩ := I.list hs
  rw [Vals.ref1 r]
  obtain ⟨as, hr⟩ := reads_pairs I rs its k rv hk
  have e0 : ((List.range rs.length).map fun i => pairD (k i)) = ((List.range rs.length).map k).map pairD := by rw [List.map_map]; rfl
  rw [e0] at hr
  have hlen : its.length = rs.length := by rw [← rv.length, List.length_map]
  refine call_min_walkH (PySem.W.iter_listW (A := X.A.in1) (vs := its.toArray) (I.ok.hd hc) hl.isList fun t e W st fpT dis kept => ?_)
  refine ⟨_, _, _, _, _, _, _, s.heap, _, rfl, W, st, fpT, ?_, dis, kept, PySem.W.cmpIn_lt (A := X.A.in1) (vs := its.toArray) hr (pairs_alike _) ?_, fun v s' hP m => ?_⟩
  · simp; omega
  · have := pairs_depth ((List.range rs.length).map k)
    show X.A.units + 1 + _ < cLine
    omega
  obtain ⟨h', tk, rfl, hk'⟩ := PySem.W.moved_old e rfl m
  have hsz : its.toArray.size - 1 = rs.length - 1 := by simp; omega
  rw [hsz] at hP
  obtain ⟨b1, b2⟩ := best_first k (fun i j => PySem.W.dataLt ((((List.range rs.length).map k).map pairD).getD i .none) ((((List.range rs.length).map k).map pairD).getD j .none)) (rs.length - 1) (fun i j hi hj => by
    have a1 : (((List.range rs.length).map k).map pairD).getD i .none = pairD (k i) := by simp [List.getD_eq_getElem?_getD, List.getElem?_range (show i < rs.length by omega)]
    have a2 : (((List.range rs.length).map k).map pairD).getD j .none = pairD (k j) := by simp [List.getD_eq_getElem?_getD, List.getElem?_range (show j < rs.length by omega)]
    rw [a1, a2]
    exact pair_lt _ _) (rs.length - 1) (Nat.le_refl _)
  generalize argBest (fun i j => PySem.W.dataLt ((((List.range rs.length).map k).map pairD).getD i .none) ((((List.range rs.length).map k).map pairD).getD j .none)) (rs.length - 1) = z at hP b1 b2
  obtain ⟨r0, hr0⟩ : ∃ r0, rs[z]? = some r0 := ⟨_, List.getElem?_eq_getElem (by omega)⟩
  obtain ⟨u, hu1, hu2⟩ := rv.get (show (rs.map V.ref)[z]? = some (V.ref r0) by rw [List.getElem?_map, hr0]; rfl)
  have hv : u = v := by
    have q1 : its.toArray[z]? = some u := by simpa using hu1
    exact Option.some.inj (q1.symm.trans hP)
  subst hv
  exact ⟨.ref r0, H, I.kept hk', hu2, q _ r0 hr0 fun j hj => b2 j (by omega)⟩
end
end Fd

set_option Elab.async false
set_option linter.all false
set_option maxRecDepth 100000
set_option maxHeartbeats 4000000
/-! a range that stands in a name, walked -/
namespace Fd
open PySem PySem.Spec PyProof.Rows L2
def iRngO (te : TE) : TI := fun σ H R => te σ H fun x H1 => ∃ (p : Addr) (i j : Int), x = .ref p ∧ H1 p = some (.rng i j) ∧ (-(2 ^ 62) ≤ i ∧ i < 2 ^ 62 ∧ -(2 ^ 62) ≤ j ∧ j < 2 ^ 62) ∧ R (Itr i (j - i).toNat) H1
section
variable {X : Cx} {tg : Expr}
theorem pi_rngO {l : Expr} {te : TE} (hl : PE X l te) : PI X tg l (iRngO te) := by
  refine ⟨fun pins s σ H R I h => ?_⟩
  refine thn (hl.run pins s σ H _ I h) fun v t ⟨x, H1, I1, r1, q1⟩ => ?_
  obtain ⟨p, lo, hi, rfl, hp, ⟨b1, b2, b3, b4⟩, q⟩ := q1
  cases r1
  obtain ⟨t1, t2, t3, ho⟩ := I1.hok p _ hp
  refine wpAny_pyIter_range (t := t1) (u := t2) (v := t3) ho (small_one b1 b2 b3 b4) ?_
  refine ⟨t.heap.objs.size, [t.heap.objs.size], _, _, H1, rfl, I1.kept (t' := t.toks) fun b o e => Heap.get?_push_of_some _ e, turn_range _ lo (hi - lo).toNat, ?_, fun b hb => ?_, q⟩
  · have e1 : lo + ((0 : Nat) : Int) * 1 = lo := by simp
    have e2 : (((hi - lo).toNat : Nat) : Int) - ((0 : Nat) : Int) = Builtin.Range.rangeSize lo hi 1 := by rw [rangeSize_one]; split <;> omega
    rw [e1, e2]
    exact Heap.get?_push_size _ rfl
  · obtain rfl := List.mem_singleton.mp hb
    exact I1.fpOk (Nat.le_refl _) (I1.hok.fresh (Nat.le_refl _))
end
end Fd

set_option Elab.async false
set_option linter.all false
set_option maxRecDepth 100000
/-! divisions of some work: the even one costs least -/
namespace Fd
/-- the greatest of a list, from 0 on -/
def mxL (l : List Int) : Int := l.foldr max 0
theorem mxL_ge {l : List Int} : ∀ y ∈ l, y ≤ mxL l := by
  induction l with
  | nil => intro y h; cases h
  | cons a r ih =>
    intro y h
    show y ≤ max a (mxL r)
    rcases List.mem_cons.mp h with rfl | h
    · omega
    · have := ih y h; omega
theorem mxL_mem {l : List Int} (h0 : ∀ y ∈ l, 0 ≤ y) (hne : l ≠ []) : mxL l ∈ l := by
  induction l with
  | nil => exact absurd rfl hne
  | cons a r ih =>
    show max a (mxL r) ∈ a :: r
    by_cases e : r = []
    · subst e
      have := h0 a List.mem_cons_self
      have q : max a (mxL []) = a := by show max a 0 = a; omega
      rw [q]; exact List.mem_cons_self
    · have := ih (fun y hy => h0 y (List.mem_cons_of_mem _ hy)) e
      by_cases z : mxL r ≤ a
      · rw [Int.max_eq_left z]; exact List.mem_cons_self
      · rw [Int.max_eq_right (by omega)]; exact List.mem_cons_of_mem _ this
theorem mxL_uniq {l : List Int} (h0 : ∀ y ∈ l, 0 ≤ y) {m : Int} (h1 : m ∈ l) (h2 : ∀ y ∈ l, y ≤ m) : m = mxL l := by
  have a := mxL_ge m h1
  have b := h2 _ (mxL_mem h0 (fun e => by subst e; cases h1))
  omega
theorem mxL_nonneg (l : List Int) : 0 ≤ mxL l := by
  cases l with
  | nil => exact Int.le_refl 0
  | cons a r =>
    show 0 ≤ max a (mxL r)
    have := mxL_nonneg r
    omega
/-- what a division costs -/
def cst (l : List Int) (o f : Int) : Int := l.sum + o * l.length + f * (mxL l + o)
/-- the even division of w into c parts -/
def evenL (w c : Nat) : List Int := List.replicate (w % c) ((w / c : Nat) + 1 : Int) ++ List.replicate (c - w % c) ((w / c : Nat) : Int)
theorem rep_sum (n : Nat) (x : Int) : (List.replicate n x).sum = n * x := by
  induction n with
  | zero => simp
  | succ n ih => rw [List.replicate_succ, List.sum_cons, ih]; rw [show ((n + 1 : Nat) : Int) = (n : Int) + 1 by omega, Int.add_mul]; omega
theorem evenL_len {w c : Nat} (hc : 0 < c) : (evenL w c).length = c := by
  have := Nat.mod_lt w hc
  unfold evenL
  rw [List.length_append, List.length_replicate, List.length_replicate]
  omega
theorem evenL_sum {w c : Nat} (hc : 0 < c) : (evenL w c).sum = w := by
  have h1 := Nat.mod_lt w hc
  have h2 := Nat.div_add_mod w c
  unfold evenL
  rw [List.sum_append, rep_sum, rep_sum]
  have e : ((c - w % c : Nat) : Int) = (c : Int) - (w % c : Nat) := by omega
  rw [e, Int.mul_add, Int.mul_one, Int.sub_mul]
  have h3 : ((c * (w / c) + w % c : Nat) : Int) = w := by rw [h2]
  rw [Int.natCast_add, Int.natCast_mul] at h3
  omega
theorem evenL_mem {w c : Nat} {x : Int} (h : x ∈ evenL w c) : x = (w / c : Nat) ∨ x = (w / c : Nat) + 1 := by
  unfold evenL at h
  rcases List.mem_append.mp h with h | h
  · exact .inr (List.mem_replicate.mp h).2
  · exact .inl (List.mem_replicate.mp h).2
theorem evenL_pos {w c : Nat} (hc : 0 < c) (hw : c ≤ w) {x : Int} (h : x ∈ evenL w c) : 1 ≤ x := by
  have : 1 ≤ w / c := (Nat.le_div_iff_mul_le hc).mpr (by omega)
  rcases evenL_mem h with rfl | rfl <;> omega
theorem evenL_nonneg {w c : Nat} {x : Int} (h : x ∈ evenL w c) : 0 ≤ x := by
  have q := evenL_mem h
  generalize w / c = k at q
  omega
theorem evenL_ne {w c : Nat} (hc : 0 < c) : evenL w c ≠ [] := fun e => by
  have := evenL_len (w := w) hc
  rw [e] at this
  simp at this
  omega
/-- greater ones first -/
theorem evenL_desc (w c : Nat) : (evenL w c).Pairwise (· ≥ ·) := by
  unfold evenL
  refine List.pairwise_append.mpr ⟨?_, ?_, ?_⟩
  · exact List.pairwise_replicate.mpr (.inr (by omega))
  · exact List.pairwise_replicate.mpr (.inr (by omega))
  · intro a ha b hb
    rw [(List.mem_replicate.mp ha).2, (List.mem_replicate.mp hb).2]
    omega
theorem sum_le_mx : ∀ l : List Int, l.sum ≤ l.length * mxL l
  | [] => by simp
  | a :: r => by
    have ih := sum_le_mx r
    have h1 : mxL r ≤ mxL (a :: r) := by show mxL r ≤ max a (mxL r); omega
    have h2 : a ≤ mxL (a :: r) := by show a ≤ max a (mxL r); omega
    have h3 : (r.length : Int) * mxL r ≤ r.length * mxL (a :: r) := Int.mul_le_mul_of_nonneg_left h1 (by omega)
    rw [List.sum_cons, List.length_cons, show ((r.length + 1 : Nat) : Int) = (r.length : Int) + 1 by omega, Int.add_mul]
    omega
theorem mx_even {w c : Nat} (hc : 0 < c) {m : Int} (hm : (w : Int) ≤ c * m) : mxL (evenL w c) ≤ m := by
  have h1 := Nat.mod_lt w hc
  have h2 := Nat.div_add_mod w c
  have q := mxL_mem (fun y hy => evenL_nonneg hy) (evenL_ne (w := w) hc)
  have m0 : 0 ≤ m := by
    by_cases z : 0 ≤ m
    · exact z
    · have : (c : Int) * m ≤ c * (-1) := Int.mul_le_mul_of_nonneg_left (by omega) (by omega)
      omega
  obtain ⟨k, rfl⟩ : ∃ k : Nat, m = k := ⟨m.toNat, by omega⟩
  have hm' : w ≤ c * k := by
    have e : ((c * k : Nat) : Int) = c * k := Int.natCast_mul c k
    omega
  have d : w / c ≤ k := by
    have := Nat.div_le_div_right (c := c) hm'
    rwa [Nat.mul_div_cancel_left k hc] at this
  unfold evenL at q
  rcases List.mem_append.mp q with q | q
  · have h3 := (List.mem_replicate.mp q)
    have h4 : w % c ≠ 0 := h3.1
    have : w / c ≠ k := fun e => by rw [e] at h2; omega
    have e2 := h3.2
    unfold evenL
    rw [e2]
    omega
  · have e2 := (List.mem_replicate.mp q).2
    unfold evenL
    rw [e2]
    omega
/-- no division into as many parts costs less than the even one -/
theorem even_least {l : List Int} {w : Nat} (hl : l ≠ []) (hs : l.sum = w) {o f : Int} (hf : 0 ≤ f) : cst (evenL w l.length) o f ≤ cst l o f := by
  have hc : 0 < l.length := by
    cases l with
    | nil => exact absurd rfl hl
    | cons a r => simp
  have h1 := sum_le_mx l
  rw [hs] at h1
  have h2 := mx_even hc h1
  unfold cst
  rw [evenL_len hc, evenL_sum hc, hs]
  have h3 : f * (mxL (evenL w l.length) + o) ≤ f * (mxL l + o) := Int.mul_le_mul_of_nonneg_left (by omega) hf
  omega
/-- all divisions of w into at most n + 1 parts, as they are found -/
def divs : Nat → Nat → List (List Int)
  | 0, w => [[(w : Int)]]
  | n + 1, w => [(w : Int)] :: (List.range (w - 1)).flatMap fun i => (divs n (w - 1 - i)).map fun r => ((i : Int) + 1) :: r
theorem divs_head (n w : Nat) : [(w : Int)] ∈ divs n w := by
  cases n <;> exact List.mem_cons_self
/-- what a division is -/
structure IsDiv (n w : Nat) (l : List Int) : Prop where
  ne : l ≠ []
  len : l.length ≤ n + 1
  pos : ∀ y ∈ l, 1 ≤ y
  sum : l.sum = w
theorem divs_are : ∀ (n w : Nat), 1 ≤ w → ∀ l ∈ divs n w, IsDiv n w l
  | 0, w, hw, l, h => by
    have e : l = [(w : Int)] := List.mem_singleton.mp h
    subst e
    exact ⟨by simp, by simp, fun y hy => by rw [List.mem_singleton.mp hy]; omega, by simp⟩
  | n + 1, w, hw, l, h => by
    rcases List.mem_cons.mp h with e | h
    · subst e
      exact ⟨by simp, by simp, fun y hy => by rw [List.mem_singleton.mp hy]; omega, by simp⟩
    · obtain ⟨i, hi, h⟩ := List.mem_flatMap.mp h
      obtain ⟨r, hr, rfl⟩ := List.mem_map.mp h
      have hi := List.mem_range.mp hi
      have q := divs_are n (w - 1 - i) (by omega) r hr
      refine ⟨by simp, ?_, fun y hy => ?_, ?_⟩
      · have := q.len; simp; omega
      · rcases List.mem_cons.mp hy with rfl | hy
        · omega
        · exact q.pos y hy
      · rw [List.sum_cons, q.sum]; omega
theorem divs_all : ∀ (n w : Nat) (l : List Int), IsDiv n w l → l ∈ divs n w
  | n, w, [], h => absurd rfl h.ne
  | n, w, [a], h => by
    have e := h.sum
    have : a = w := by simpa using e
    rw [this]
    exact divs_head n w
  | 0, w, a :: b :: r, h => by
    have := h.len
    simp at this
  | n + 1, w, a :: b :: r, h => by
    have ha := h.pos a List.mem_cons_self
    have hs := h.sum
    rw [List.sum_cons] at hs
    have sp : ∀ l : List Int, (∀ y ∈ l, 1 ≤ y) → 0 ≤ l.sum := fun l => by
      induction l with
      | nil => intro _; simp
      | cons x xs ih =>
        intro g
        have := g x List.mem_cons_self
        have := ih fun y hy => g y (List.mem_cons_of_mem _ hy)
        rw [List.sum_cons]
        omega
    have hr : 1 ≤ (b :: r).sum := by
      have h1 := h.pos b (by simp)
      have h2 := sp r fun y hy => h.pos y (by simp [hy])
      rw [List.sum_cons]
      omega
    refine List.mem_cons_of_mem _ (List.mem_flatMap.mpr ⟨(a - 1).toNat, List.mem_range.mpr (by omega), List.mem_map.mpr ⟨b :: r, ?_, ?_⟩⟩)
    · refine divs_all n _ (b :: r) ⟨by simp, ?_, fun y hy => h.pos y (List.mem_cons_of_mem _ hy), ?_⟩
      · have := h.len
        simp at this ⊢
        omega
      · omega
    · congr 1
      omega
theorem flat_len {α : Type} (f : Nat → List α) (g : Nat → Nat) : ∀ m, (∀ i, i < m → (f i).length ≤ g i) → ((List.range m).flatMap f).length ≤ ((List.range m).map g).sum
  | 0, _ => by simp
  | m + 1, h => by
    rw [List.range_succ, List.flatMap_append, List.length_append, List.map_append, List.sum_append]
    have a := flat_len f g m fun i hi => h i (by omega)
    have b := h m (by omega)
    have e1 : ([m].flatMap f).length = (f m).length := by rw [List.flatMap_cons, List.flatMap_nil, List.append_nil]
    have e2 : ([m].map g).sum = g m := by simp
    rw [e1, e2]
    omega
theorem pow_sum (w m : Nat) (h : m ≤ w) : ((List.range m).map fun i => 2 ^ (w - i)).sum + 2 ^ (w + 1 - m) = 2 ^ (w + 1) := by
  induction m with
  | zero => simp
  | succ m ih =>
    have q := ih (by omega)
    rw [List.range_succ, List.map_append, List.sum_append]
    have e : w + 1 - m = (w - m) + 1 := by omega
    rw [e, Nat.pow_succ] at q
    have e2 : w + 1 - (m + 1) = w - m := by omega
    rw [e2]
    simp
    omega
theorem divs_len : ∀ (n w : Nat), 1 ≤ w → (divs n w).length ≤ 2 ^ (w - 1)
  | 0, w, _ => Nat.one_le_two_pow
  | n + 1, w, hw => by
    show (_ :: _).length ≤ _
    rw [List.length_cons]
    by_cases h1 : w = 1
    · subst h1; simp
    have a := flat_len (fun i => (divs n (w - 1 - i)).map fun r => ((i : Int) + 1) :: r) (fun i => 2 ^ (w - 2 - i)) (w - 1) fun i hi => by
      rw [List.length_map]
      have := divs_len n (w - 1 - i) (by omega)
      rwa [show w - 1 - i - 1 = w - 2 - i by omega] at this
    obtain ⟨u, rfl⟩ : ∃ u, w = u + 2 := ⟨w - 2, by omega⟩
    have b : ((List.range (u + 1)).map fun i => 2 ^ (u - i)).sum + 1 = 2 ^ (u + 1) := by
      have q := pow_sum u u (Nat.le_refl _)
      rw [List.range_succ, List.map_append, List.sum_append]
      have e : u + 1 - u = 1 := by omega
      rw [e] at q
      simp
      omega
    have e3 : u + 2 - 1 = u + 1 := by omega
    have e4 : u + 2 - 2 = u := by omega
    rw [e3] at a ⊢
    rw [e4] at a
    omega
end Fd

set_option Elab.async false
set_option linter.all false
set_option maxRecDepth 100000
set_option maxHeartbeats 4000000
namespace Fd
open PySem PySem.Spec PyProof.Rows L2 RZ
def topS (i : Nat) : Stmt := PySem.Challenge.pw_faultdue_k10_best_of_all.main.body.getD i (.Pass ⟨0, 0, 0, 0⟩)
abbrev sEven : Stmt := topS 2
abbrev sCost : Stmt := topS 3
abbrev sBest : Stmt := topS 4
abbrev sBestCosts : Stmt := topS 5
abbrev sBestEven : Stmt := topS 6
theorem scEven : FnScope ["work", "count", "size", "more"] ["work", "count"] (defScope sEven) := ⟨rfl, rfl, rfl, by decide +kernel, rfl, by decide +kernel, by decide +kernel⟩
theorem scCost : FnScope ["parts", "overhead", "faults"] ["parts", "overhead", "faults"] (defScope sCost) := ⟨rfl, rfl, rfl, by decide +kernel, rfl, by decide +kernel, by decide +kernel⟩
theorem scBest : FnScope ["work", "overhead", "faults", "count", "least", "part"] ["work", "overhead", "faults"] (defScope sBest) := ⟨rfl, rfl, rfl, by decide +kernel, rfl, by decide +kernel, by decide +kernel⟩
theorem scBestCosts : FnScope ["work", "overhead", "most", "faults"] ["work", "overhead", "most"] (defScope sBestCosts) := ⟨rfl, rfl, rfl, by decide +kernel, rfl, by decide +kernel, by decide +kernel⟩
theorem scBestEven : FnScope ["work", "overhead", "faults", "counts", "costs", "least", "count"] ["work", "overhead", "faults"] (defScope sBestEven) := ⟨rfl, rfl, rfl, by decide +kernel, rfl, by decide +kernel, by decide +kernel⟩
theorem cat_any {K : PySem.W.Frag} {H : Hp} {a b : Addr} {xs ys : List V} {Q : VK} (ha : H a = some (.tup xs)) (hb : H b = some (.tup ys)) (hz : xs.length + ys.length ≤ 1000)
    (q : ∀ H' t, Same H H' → H' t = some (.tup (xs ++ ys)) → Q (.ref t) H') : rCatA K (.ref a) (.ref b) H Q := by
  refine ⟨a, b, xs, ys, rfl, rfl, SqT.of ha, SqT.of hb, Nat.le_of_lt (small1000 hz), fun e => ?_, fun _ e => ?_, fun _ _ t nt => ?_⟩
  · exact q H b (Same.refl _) (by rw [e]; exact hb)
  · exact q H a (Same.refl _) (by rw [e, List.append_nil]; exact ha)
  · exact q _ t (same_new nt) upd_same
theorem rep_any {K : PySem.W.Frag} {H : Hp} {a : Addr} {xs : List V} {k : Int} {Q : VK} (ha : H a = some (.tup xs)) (hne : xs ≠ []) (hk : 0 ≤ k ∧ k ≤ 1000) (hl : xs.length ≤ 1000)
    (q : ∀ H' t, Same H H' → H' t = some (.tup (List.replicate k.toNat xs).flatten) → Q (.ref t) H') : rRepA K (.ref a) (.int k) H Q := by
  refine ⟨a, k, xs, rfl, rfl, SqT.of ha, hne, hk.1, hk.2, hl, fun e => ?_, fun _ t nt => ?_⟩
  · refine q H a (Same.refl _) ?_
    rw [e, ha]; simp
  · exact q _ t (same_new nt) upd_same
theorem iv_rep (n : Nat) (x : Int) : (List.replicate n [V.int x]).flatten = iv (List.replicate n x) := by simp [iv]
section
variable {P : Program} {w : World} {K : PySem.W.Frag} {mg : Str → Option Value} {base : Heap}
/-! ### even -/
def spEven : Sp := fun vs H Q _ => ∃ w c : Nat, vs = [.int w, .int c] ∧ 1 ≤ c ∧ c ≤ 1000 ∧ w ≤ 1000 ∧ ∀ H' t, Same H H' → H' t = some (.tup (iv (evenL w c))) → Q (.ref t) H'
theorem ok_even {f : Addr} {fd : FuncData} (F : Fun K "even" "even" sEven f fd) : FnOk P w K mg base CX0 1 f fd ["work", "count"] spEven := by
  refine F.ok scEven (fun vs H Q E h => ?_) (fun cdv A outer s H vs Q E hr h => ?_)
  · obtain ⟨w, c, rfl, _⟩ := h
    rfl
  · obtain ⟨W, c, rfl, c1, c2, w1, q⟩ := h
    refine ⟨_, pss_cons (ps_par (i := 2) (j := 3) (by rfl) scEven.nd rfl rfl (by decide) rfl rfl (pa_cons (pe_op op_fdiv (pv 0) (pv 1)) (pa_cons (pe_op op_mod (pv 0) (pv 1)) pa_nil)) (by rfl))
      (pss_one (ps_ret (pe_op op_catA (pe_op op_repA (pe_tup (pa_cons (pe_op op_add (pv 2) pe_int) pa_nil)) (pv 3)) (pe_op op_repA (pe_tup (pa_cons (pv 2) pa_nil)) (pe_op op_sub (pv 1) (pv 3)))))), ?_⟩
    have e1 : ((W : Int) / (c : Int)) = ((W / c : Nat) : Int) := (Int.natCast_ediv W c).symm
    have e2 : ((W : Int) % (c : Int)) = ((W % c : Nat) : Int) := (Int.natCast_emod W c).symm
    have lt := Nat.mod_lt W (show 0 < c by omega)
    refine ⟨_, rfl, _, rfl, _, _, rfl, rfl, ⟨by omega, by omega⟩, _, rfl, _, rfl, _, _, rfl, rfl, by omega, _, _, rfl, ?_⟩
    dsimp only
    rw [e1, e2]
    refine ⟨_, rfl, _, _, rfl, rfl, by show 1 ≤ sizeLine; decide, fun a na => ⟨_, rfl, ?_⟩⟩
    have sA := same_new (o := .tup [.int ((W / c : Nat) + 1 : Int)]) na
    refine rep_any (xs := [.int ((W / c : Nat) + 1 : Int)]) upd_same (by simp) ⟨by omega, by omega⟩ (by simp) fun H1 t1 s1 h1 => ?_
    refine ⟨_, rfl, by show 1 ≤ sizeLine; decide, fun b nb => ?_⟩
    have sB := same_new (o := .tup [.int (W / c : Nat)]) nb
    refine ⟨_, rfl, _, rfl, _, _, rfl, rfl, ?_⟩
    refine rep_any (xs := [.int (W / c : Nat)]) upd_same (by simp) ⟨by omega, by omega⟩ (by simp) fun H2 t2 s2 h2 => ?_
    rw [iv_rep] at h1 h2
    have z1 : ((W % c : Nat) : Int).toNat = W % c := by omega
    have z2 : ((c : Int) - ((W % c : Nat) : Int)).toNat = c - W % c := by omega
    rw [z1] at h1
    rw [z2] at h2
    refine cat_any (s2 _ _ (sB _ _ h1)) h2 (by simp; omega) fun H3 t3 s3 h3 => ?_
    refine q H3 t3 (sA.trans (s1.trans (sB.trans (s2.trans s3)))) ?_
    rw [h3]
    simp only [iv, evenL, List.map_append]
/-! ### cost -/
def spCost (K : PySem.W.Frag) : Sp := fun vs H Q _ => ∃ (a : Addr) (l : List Int) (o f : Int), vs = [.ref a, .int o, .int f] ∧ H a = some (.tup (iv l)) ∧ l ≠ [] ∧ l.length ≤ 1000 ∧ (∀ y ∈ l, 0 ≤ y) ∧ (0 ≤ o ∧ o ≤ 2000) ∧ (0 ≤ f ∧ f ≤ 20) ∧ Q (.int (cst l o f)) H
theorem ok_cost {f : Addr} {fd : FuncData} (F : Fun K "cost" "cost" sCost f fd) (mS : mg "sum" = none) (mLen : mg "len" = none) (mX : mg "max" = none) : FnOk P w K mg base CX0 1 f fd ["parts", "overhead", "faults"] (spCost K) := by
  refine F.ok scCost (fun vs H Q E h => ?_) (fun cdv A outer s H vs Q E hr h => ?_)
  · obtain ⟨a, l, o, f, rfl, _⟩ := h
    rfl
  · obtain ⟨a, l, o, f, rfl, ha, hne, hl, h0, ho, hf, q⟩ := h
    refine ⟨_, pss_one (ps_ret (pe_op op_add (pe_op op_add (pe_callB (cr_sumT rfl) (by rfl) mS (by decide +kernel) (pa_cons (pv 0) pa_nil)) (pe_op op_mul (pv 1) (pe_callB call_len_seq (by rfl) mLen PySem.boot_len (pa_cons (pv 0) pa_nil))))
      (pe_op op_mul (pv 2) (pe_op op_add (pe_callB (cr_maxT rfl) (by rfl) mX (by decide +kernel) (pa_cons (pv 0) pa_nil)) (pv 1))))), ?_⟩
    have hp : 0 < l.length := by
      cases l with
      | nil => exact absurd rfl hne
      | cons x r => simp
    refine ⟨.ref a, rfl, a, l, rfl, SqT.of ha, .int o, rfl, .ref a, rfl, a, _, rfl, .inr (SqT.of ha), _, _, rfl, rfl, .inl ⟨by omega, by omega⟩, _, _, rfl, rfl, .int f, rfl, .ref a, rfl, a, l, rfl, SqT.of ha, hp, fun m h1 h2 => ?_⟩
    refine ⟨.int o, rfl, _, _, rfl, rfl, _, _, rfl, rfl, .inl ⟨by omega, by omega⟩, _, _, rfl, rfl, ?_⟩
    rw [mxL_uniq h0 h1 h2, List.length_map]
    exact q
/-! ### the best even one -/
structure BestC (w : Nat) (o f : Int) (c : Nat) : Prop where
  lo : 1 ≤ c
  hi : c ≤ min 6 w
  best : ∀ d : Nat, 1 ≤ d → d ≤ min 6 w → lexLe (cst (evenL w c) o f, (c : Int)) (cst (evenL w d) o f, (d : Int))
theorem BestC.uniq {w : Nat} {o f : Int} {c d : Nat} (h : BestC w o f c) (g : BestC w o f d) : c = d := by
  have a := h.best d g.lo g.hi
  have b := g.best c h.lo h.hi
  unfold lexLe at a b
  dsimp only at a b
  omega
noncomputable def bc (w : Nat) (o f : Int) : Nat := open Classical in if h : ∃ c, BestC w o f c then h.choose else 1
theorem bc_eq {w : Nat} {o f : Int} {c : Nat} (h : BestC w o f c) : bc w o f = c := by
  unfold bc
  rw [dif_pos ⟨c, h⟩]
  exact (Exists.choose_spec (⟨c, h⟩ : ∃ c, BestC w o f c)).uniq h
theorem evenL_len' {w c : Nat} (hc : 1 ≤ c) : (evenL w c).length = c := evenL_len hc
def spBestEven : Sp := fun vs H Q _ => ∃ (W : Nat) (o f : Int), vs = [.int W, .int o, .int f] ∧ 1 ≤ W ∧ W ≤ 1000 ∧ (0 ≤ o ∧ o ≤ 2000) ∧ (0 ≤ f ∧ f ≤ 20) ∧
  (BestC W o f (bc W o f) → ∀ H' t, Same H H' → H t = none → H' t = some (.tup [.int (bc W o f : Nat), .int (cst (evenL W (bc W o f)) o f)]) → Q (.ref t) H')
theorem ok_bestEven {f fE fC : Addr} {fd fdE fdC : FuncData} {tk : Tok} (F : Fun K "best_even" "best_even" sBestEven f fd)
    (FE : Fun K "even" "even" sEven fE fdE) (GE : FnOk P w K mg base CX0 1 fE fdE ["work", "count"] spEven) (bE : Binds K fdE ["work", "count"] []) (gE : mg "even" = some (.ref fE))
    (FC : Fun K "cost" "cost" sCost fC fdC) (GC : FnOk P w K mg base CX0 1 fC fdC ["parts", "overhead", "faults"] (spCost K)) (bC : Binds K fdC ["parts", "overhead", "faults"] []) (gC : mg "cost" = some (.ref fC))
    (mMP : mg "MOST_PARTS" = some (.int 6 tk)) (mR : mg "range" = none) (mM : mg "min" = none) : FnOk P w K mg base CX0 2 f fd ["work", "overhead", "faults"] spBestEven := by
  refine F.ok scBestEven (fun vs H Q E h => ?_) (fun cdv A outer s H vs Q E hr h => ?_)
  · obtain ⟨W, o, f, rfl, _⟩ := h
    rfl
  · obtain ⟨W, o, f, rfl, w1, w2, ho, hf, q⟩ := h
    refine ⟨_, pss_cons (ps_set (i := 3) scBestEven.nd rfl (.inl rfl) (pe_callTy cr_range2 (by rfl) mR (by decide +kernel) (pa_cons pe_int (pa_cons (pe_op op_add (pe_callB (cr_min2 rfl) (by rfl) mM (by decide +kernel) (pa_cons (pe_glob (v := .int 6) rfl mMP ⟨_, rfl⟩) (pa_cons (pv 0) pa_nil))) pe_int) pa_nil))))
      (pss_cons (ps_setLc (i := 4) (own := [("count", 6)]) (g := gName 6) (tt := tYes) (te := tTup (tCons (tCall (spCost K) [] E0 (tCons (tCall spEven [] E0 (tCons (tVar 0) (tCons (tVar 6) tNil))) (tCons (tVar 1) (tCons (tVar 2) tNil)))) (tCons (tVar 6) tNil))) rfl scBestEven.nd rfl rfl (sw_true rfl rfl rfl rfl)
          (pi_rngO (pv 3))
          (blkOk_by (N := ["work", "overhead", "faults", "counts", "costs", "least", "count"]) (sc := defScope sBestEven) (by decide +kernel))
          (fun _ _ _ _ _ => pg_name (i := 6) scBestEven.nd rfl (.inl rfl)) (fun _ _ _ _ _ => pts_nil)
          (fun _ _ _ _ _ => pe_tup (pa_cons (pe_call GC hr (by rfl) gC FC.kp bC .nil pass0 (pa_cons (pe_call GE hr (by rfl) gE FE.kp bE .nil pass0 (pa_cons (pv 0) (pa_cons (pv 6) pa_nil))) (pa_cons (pv 1) (pa_cons (pv 2) pa_nil)))) (pa_cons (pv 6) pa_nil))))
      (pss_cons (ps_asg (pe_callB (cr_minP rfl hr.units) (by rfl) mM (by decide +kernel) (pa_cons (pv 4) pa_nil)) (pg_tup rfl (pgs_cons (pg_name (i := 5) scBestEven.nd rfl (.inl rfl)) (pgs_cons (pg_name (i := 6) scBestEven.nd rfl (.inl rfl)) pgs_nil))))
      (pss_one (ps_ret (pe_tup (pa_cons (pv 6) (pa_cons (pv 5) pa_nil))))))), ?_⟩
    obtain ⟨m, hm⟩ : ∃ m : Nat, m = min 6 W := ⟨_, rfl⟩
    have em : min (6 : Int) (W : Int) = (m : Int) := by omega
    refine ⟨_, rfl, 6, (W : Int), rfl, _, _, rfl, rfl, 1, _, rfl, fun R nR => ?_⟩
    have sR := same_new (o := .rng 1 (min (6 : Int) (W : Int) + 1)) nR
    refine ⟨_, rfl, R, 1, _, rfl, upd_same, ⟨by omega, by omega, by omega, by omega⟩, fun D nD => ?_⟩
    have e1 : (min (6 : Int) (W : Int) + 1 - 1).toNat = m := by omega
    rw [e1]
    obtain ⟨H0, hH0⟩ : ∃ H0, H0 = upd H R (.rng 1 (min (6 : Int) (W : Int) + 1)) := ⟨_, rfl⟩
    rw [← hH0] at sR nD ⊢
    refine lc_range (fun i H' => Same H0 H' ∧ ∃ rs : List Addr, H' D = some (.lst (rs.map V.ref)) ∧ rs.length = i ∧ ∀ j r, rs[j]? = some r → H' r = some (.tup [.int (cst (evenL W (j + 1)) o f), .int ((j + 1 : Nat) : Int)]))
      ⟨same_new nD, [], upd_same, rfl, fun j r e => nomatch e⟩ ?_ ?_
    · rintro i H1 hi ⟨s1, rs, hD, hrl, hrs⟩
      refine ⟨rfl, ?_⟩
      dsimp only [tYes]
      rw [if_pos rfl]
      have ei : (1 : Int) + (i : Int) = ((i + 1 : Nat) : Int) := by omega
      rw [ei]
      have i1 : 1 ≤ i + 1 := by omega
      refine ⟨_, rfl, _, rfl, W, i + 1, rfl, i1, by omega, w2, fun H2 p s2 hp => ?_⟩
      refine ⟨_, rfl, _, rfl, p, evenL W (i + 1), o, f, rfl, hp, evenL_ne (by omega), by rw [evenL_len' i1]; omega, fun y hy => evenL_nonneg hy, ho, hf, ?_⟩
      refine ⟨_, rfl, by show 2 ≤ sizeLine; decide, fun Z nZ => ?_⟩
      have sZ := same_new (o := .tup [.int (cst (evenL W (i + 1)) o f), .int ((i + 1 : Nat) : Int)]) nZ
      have s12 := s2.trans sZ
      have hD2 := s12 _ _ hD
      have nDZ : D ≠ Z := ne_of_none (s2 _ _ hD) nZ
      refine ⟨_, hD2, ?_, same_upd' (s1.trans s12) nD, rs ++ [Z], ?_, ?_, fun j r e => ?_⟩
      · rw [List.length_map, hrl]; exact small1000 (by omega)
      · rw [upd_same, List.map_append]; rfl
      · rw [List.length_append, hrl]; rfl
      · by_cases z : j < i
        · rw [List.getElem?_append_left (by omega)] at e
          have e2 := s12 _ _ (hrs j r e)
          rw [upd_ne (ne_of e2 hD2 (by intro z; cases z))]
          exact e2
        · have hj := (List.getElem?_eq_some_iff.mp e).1
          rw [List.length_append, List.length_singleton] at hj
          obtain rfl : j = i := by omega
          rw [List.getElem?_append_right (by omega), hrl, Nat.sub_self] at e
          cases e
          rw [upd_ne nDZ.symm, upd_same]
    rintro H1 ⟨s1, rs, hD, hrl, hrs⟩
    refine ⟨_, rfl, D, rs, fun j => (cst (evenL W (j + 1)) o f, ((j + 1 : Nat) : Int)), rfl, SqL.of hD, by omega, hrs, fun i r hi hle => ?_⟩
    have him : i < m := by have := (List.getElem?_eq_some_iff.mp hi).1; omega
    have hB : BestC W o f (i + 1) := ⟨by omega, by omega, fun d d1 d2 => by
      have := hle (d - 1) (by omega)
      dsimp only at this
      rwa [show d - 1 + 1 = d by omega] at this⟩
    have hb := bc_eq hB
    refine ⟨r, _, rfl, SqT.of (hrs i r hi), rfl, _, _, rfl, _, _, rfl, rfl, ?_⟩
    refine ⟨_, rfl, _, rfl, by show 2 ≤ sizeLine; decide, fun t nt => ?_⟩
    have s2 := sR.trans s1
    refine q (by rw [hb]; exact hB) _ t (s2.trans (same_new nt)) (free_of s2 nt) ?_
    rw [upd_same, hb]
/-! ### best -/
noncomputable def lens (W : Nat) (o f : Int) : List Int := (evenL W (bc W o f)).map fun x => x + o
def spBest : Sp := fun vs H Q _ => ∃ (W : Nat) (o f : Int), vs = [.int W, .int o, .int f] ∧ 1 ≤ W ∧ W ≤ 1000 ∧ (0 ≤ o ∧ o ≤ 2000) ∧ (0 ≤ f ∧ f ≤ 20) ∧
  (BestC W o f (bc W o f) → ∀ H' t p, Same H H' → H t = none → H' t = some (.tup [.int (bc W o f : Nat), .int (cst (evenL W (bc W o f)) o f), .ref p]) → H' p = some (.tup (iv (lens W o f))) → Q (.ref t) H')
theorem ok_best {f fE fB : Addr} {fd fdE fdB : FuncData} (F : Fun K "best" "best" sBest f fd)
    (FE : Fun K "even" "even" sEven fE fdE) (GE : FnOk P w K mg base CX0 1 fE fdE ["work", "count"] spEven) (bE : Binds K fdE ["work", "count"] []) (gE : mg "even" = some (.ref fE))
    (FB : Fun K "best_even" "best_even" sBestEven fB fdB) (GB : FnOk P w K mg base CX0 2 fB fdB ["work", "overhead", "faults"] spBestEven) (bB : Binds K fdB ["work", "overhead", "faults"] []) (gB : mg "best_even" = some (.ref fB))
    (mT : mg "tuple" = none) : FnOk P w K mg base CX0 3 f fd ["work", "overhead", "faults"] spBest := by
  refine F.ok scBest (fun vs H Q E h => ?_) (fun cdv A outer s H vs Q E hr h => ?_)
  · obtain ⟨W, o, f, rfl, _⟩ := h
    rfl
  · obtain ⟨W, o, f, rfl, w1, w2, ho, hf, q⟩ := h
    have hr1 : Room 1 _ := hr.mono (by decide)
    refine ⟨_, pss_cons (ps_asg (pe_call GB hr (by rfl) gB FB.kp bB .nil pass0 (pa_cons (pv 0) (pa_cons (pv 1) (pa_cons (pv 2) pa_nil)))) (pg_tup rfl (pgs_cons (pg_name (i := 3) scBest.nd rfl (.inl rfl)) (pgs_cons (pg_name (i := 4) scBest.nd rfl (.inl rfl)) pgs_nil))))
      (pss_one (ps_ret (pe_tup (pa_cons (pv 3) (pa_cons (pv 4) (pa_cons (pe_tupleOf (by rfl) mT (pe_lc (own := [("part", 5)]) (g := gName 5) (tt := tYes) (te := tOp (rI0 fun i j => .int (i + j)) (tVar 5) (tVar 1)) rfl scBest.nd
        (pi_tup (pe_call GE hr1 (by rfl) gE FE.kp bE .nil pass0 (pa_cons (pv 0) (pa_cons (pv 3) pa_nil))))
        (blkOk_by (N := ["work", "overhead", "faults", "count", "least", "part"]) (sc := defScope sBest) (by decide +kernel))
        (fun _ _ _ _ _ => pg_name (i := 5) scBest.nd rfl (.inl rfl)) (fun _ _ _ _ _ => pts_nil) (fun _ _ _ _ _ => pe_op op_add (pv 5) (pv 1)))) pa_nil)))))), ?_⟩
    refine ⟨_, rfl, _, rfl, _, rfl, W, o, f, rfl, w1, w2, ho, hf, fun hB H1 t s1 nt ht => ?_⟩
    obtain ⟨c, hc⟩ : ∃ c, c = bc W o f := ⟨_, rfl⟩
    have l1 : 1 ≤ c := by rw [hc]; exact hB.lo
    have l2 : c ≤ 6 := by have := hB.hi; omega
    refine ⟨t, _, rfl, SqT.of ht, rfl, _, _, rfl, _, _, rfl, rfl, ?_⟩
    refine ⟨_, rfl, _, rfl, _, rfl, _, rfl, W, c, by rw [hc]; rfl, l1, by omega, w2, fun H2 u s2 hu => ?_⟩
    refine ⟨u, rfl, ⟨_, SqT.of hu⟩, fun D nD => ?_⟩
    have eu : (iv (evenL W c)).length = c := by rw [List.length_map, evenL_len' l1]
    refine lc_it walk_tup (fun i H' => Same H2 H' ∧ H' D = some (.lst (iv (((evenL W c).take i).map fun x => x + o)))) ⟨same_new nD, upd_same⟩ (fun i H' _ h => SqT.of (h.1 _ _ hu)) ?_ ?_
    · rintro i v H4 H3 hi ⟨s3, hD⟩ ⟨rfl, hv⟩
      rw [eu] at hi
      have hi2 : i < (evenL W c).length := by rw [evenL_len' l1]; exact hi
      have hv' : v = .int ((evenL W c)[i]) := by
        rw [List.getElem?_map, List.getElem?_eq_getElem hi2] at hv
        cases hv; rfl
      subst hv'
      refine ⟨rfl, ?_⟩
      dsimp only [tYes]
      rw [if_pos rfl]
      refine ⟨_, rfl, _, rfl, _, _, rfl, rfl, _, hD, ?_, same_upd' s3 nD, ?_⟩
      · rw [List.length_map, List.length_map, List.length_take]; exact small1000 (by omega)
      · rw [upd_same, List.take_succ_eq_append_getElem hi2, List.map_append, ← iv_snoc]
        rfl
    rintro H3 ⟨s3, hD⟩
    rw [eu, List.take_of_length_le (by rw [evenL_len' l1]; exact Nat.le_refl _)] at hD
    refine .inl ⟨D, _, rfl, SqL.of hD, fun p np => ?_⟩
    have sp_ := same_new (o := .tup (iv ((evenL W c).map fun x => x + o))) np
    refine ⟨by show 3 ≤ sizeLine; decide, fun z nz => ?_⟩
    have s9 := s1.trans (s2.trans (s3.trans sp_))
    refine q hB _ z p (s9.trans (same_new nz)) (free_of s9 nz) ?_ ?_
    · rw [upd_same]
    · refine same_new nz _ _ ?_
      rw [upd_same, hc]
      rfl
/-! ### best_costs -/
def spBestCosts : Sp := fun vs H Q _ => ∃ (W : Nat) (o : Int) (m : Nat), vs = [.int W, .int o, .int m] ∧ 1 ≤ W ∧ W ≤ 1000 ∧ (0 ≤ o ∧ o ≤ 2000) ∧ m ≤ 20 ∧
  ∀ (H' : Hp) (t : Addr) (rs : List Addr), Same H H' → H' t = some (.tup (rs.map V.ref)) → rs.length = m + 1 → (∀ (j : Nat) (r : Addr), rs[j]? = some r → H' r = some (.tup [.int (bc W o (j : Nat) : Nat), .int (cst (evenL W (bc W o (j : Nat))) o (j : Nat))])) → Q (.ref t) H'
theorem ok_bestCosts {f fB : Addr} {fd fdB : FuncData} (F : Fun K "best_costs" "best_costs" sBestCosts f fd)
    (FB : Fun K "best_even" "best_even" sBestEven fB fdB) (GB : FnOk P w K mg base CX0 2 fB fdB ["work", "overhead", "faults"] spBestEven) (bB : Binds K fdB ["work", "overhead", "faults"] []) (gB : mg "best_even" = some (.ref fB))
    (mR : mg "range" = none) (mT : mg "tuple" = none) : FnOk P w K mg base CX0 3 f fd ["work", "overhead", "most"] spBestCosts := by
  refine F.ok scBestCosts (fun vs H Q E h => ?_) (fun cdv A outer s H vs Q E hr h => ?_)
  · obtain ⟨W, o, m, rfl, _⟩ := h
    rfl
  · obtain ⟨W, o, m, rfl, w1, w2, ho, hm, q⟩ := h
    refine ⟨_, pss_one (ps_ret (pe_tupleOf (by rfl) mT (pe_lc (own := [("faults", 3)]) (g := gName 3) (tt := tYes) (te := tCall spBestEven [] E0 (tCons (tVar 0) (tCons (tVar 1) (tCons (tVar 3) tNil)))) rfl scBestCosts.nd
        (pi_range1 (by rfl) mR (pa_cons (pe_op op_add (pv 2) pe_int) pa_nil))
        (blkOk_by (N := ["work", "overhead", "most", "faults"]) (sc := defScope sBestCosts) (by decide +kernel))
        (fun _ _ _ _ _ => pg_name (i := 3) scBestCosts.nd rfl (.inl rfl)) (fun _ _ _ _ _ => pts_nil)
        (fun _ _ _ _ _ => pe_call GB hr (by rfl) gB FB.kp bB .nil pass0 (pa_cons (pv 0) (pa_cons (pv 1) (pa_cons (pv 3) pa_nil))))))), ?_⟩
    refine ⟨_, rfl, _, _, rfl, rfl, _, rfl, by omega, by omega, fun D nD => ?_⟩
    rw [show ((m : Int) + 1).toNat = m + 1 by omega]
    refine lc_range (fun i H' => Same H H' ∧ ∃ rs : List Addr, H' D = some (.lst (rs.map V.ref)) ∧ rs.length = i ∧ ∀ (j : Nat) (r : Addr), rs[j]? = some r → H' r = some (.tup [.int (bc W o (j : Nat) : Nat), .int (cst (evenL W (bc W o (j : Nat))) o (j : Nat))]))
      ⟨same_new nD, [], upd_same, rfl, fun j r e => nomatch e⟩ ?_ ?_
    · rintro i H1 hi ⟨s1, rs, hD, hrl, hrs⟩
      refine ⟨rfl, ?_⟩
      dsimp only [tYes]
      rw [if_pos rfl]
      rw [show (0 : Int) + (i : Int) = ((i : Nat) : Int) by omega]
      refine ⟨_, rfl, _, rfl, _, rfl, W, o, (i : Nat), rfl, w1, w2, ho, ⟨by omega, by omega⟩, fun hB H2 Z s2 nZ hZ => ?_⟩
      have hD2 := s2 _ _ hD
      have nDZ : D ≠ Z := ne_of_none hD nZ
      refine ⟨_, hD2, ?_, same_upd' (s1.trans s2) nD, rs ++ [Z], ?_, ?_, fun j r e => ?_⟩
      · rw [List.length_map, hrl]; exact small1000 (by omega)
      · rw [upd_same, List.map_append]; rfl
      · rw [List.length_append, hrl]; rfl
      · by_cases z : j < i
        · rw [List.getElem?_append_left (by omega)] at e
          have e2 := s2 _ _ (hrs j r e)
          rw [upd_ne (ne_of e2 hD2 (by intro z; cases z))]
          exact e2
        · have hj := (List.getElem?_eq_some_iff.mp e).1
          rw [List.length_append, List.length_singleton] at hj
          obtain rfl : j = i := by omega
          rw [List.getElem?_append_right (by omega), hrl, Nat.sub_self] at e
          cases e
          rw [upd_ne nDZ.symm]
          exact hZ
    rintro H1 ⟨s1, rs, hD, hrl, hrs⟩
    refine .inl ⟨D, _, rfl, SqL.of hD, fun t nt => ?_⟩
    have st := same_new (o := .tup (rs.map V.ref)) nt
    exact q _ t rs (s1.trans st) upd_same hrl fun j r e => st _ _ (hrs j r e)
end
end Fd

set_option Elab.async false
set_option linter.all false
set_option maxRecDepth 100000
set_option maxHeartbeats 4000000
namespace Fd
open PySem PySem.Spec PyProof.Rows L2 RZ
abbrev sLCost : Stmt := topL 13
abbrev sDivs : Stmt := topL 14
theorem scLCost : FnScope ["parts", "overhead", "faults", "lengths", "part"] ["parts", "overhead", "faults"] (defScope sLCost) := ⟨rfl, rfl, rfl, by decide +kernel, rfl, by decide +kernel, by decide +kernel⟩
theorem scDivs : FnScope ["work", "most", "found", "first", "rest"] ["work", "most"] (defScope sDivs) := ⟨rfl, rfl, rfl, by decide +kernel, rfl, by decide +kernel, by decide +kernel⟩
theorem sum_plus (l : List Int) (o : Int) : (l.map fun x => x + o).sum = l.sum + o * l.length := by
  induction l with
  | nil => simp
  | cons a r ih =>
    rw [List.map_cons, List.sum_cons, List.sum_cons, ih, List.length_cons, show ((r.length + 1 : Nat) : Int) = (r.length : Int) + 1 by omega, Int.mul_add]
    omega
theorem mx_plus {l : List Int} {o m : Int} (h0 : ∀ y ∈ l, 0 ≤ y) (h1 : m ∈ l.map fun x => x + o) (h2 : ∀ y ∈ (l.map fun x => x + o), y ≤ m) : m = mxL l + o := by
  obtain ⟨x, hx, rfl⟩ := List.mem_map.mp h1
  have := mxL_uniq h0 hx fun y hy => by have := h2 (y + o) (List.mem_map.mpr ⟨y, hy, rfl⟩); omega
  omega
theorem wide_small {n : Nat} (h : n ≤ 200000) : n < sizeLine := Nat.lt_of_le_of_lt h (by decide)
/-- these refs hold these divisions -/
def DivsAt (H : Hp) (rs : List Addr) (L : List (List Int)) : Prop := rs.length = L.length ∧ ∀ (j : Nat) (r : Addr), rs[j]? = some r → ∃ p, L[j]? = some p ∧ H r = some (.tup (iv p))
theorem DivsAt.same {H H' : Hp} {rs : List Addr} {L : List (List Int)} (h : DivsAt H rs L) (s : Same H H') : DivsAt H' rs L := ⟨h.1, fun j r e => let ⟨p, a, b⟩ := h.2 j r e; ⟨p, a, s _ _ b⟩⟩
theorem DivsAt.snoc {H H' : Hp} {rs : List Addr} {L : List (List Int)} {r : Addr} {p : List Int} (h : DivsAt H rs L) (k : ∀ b xs, H b = some (.tup xs) → H' b = some (.tup xs)) (hr : H' r = some (.tup (iv p))) : DivsAt H' (rs ++ [r]) (L ++ [p]) := by
  refine ⟨by rw [List.length_append, List.length_append, h.1]; rfl, fun j x e => ?_⟩
  by_cases z : j < rs.length
  · rw [List.getElem?_append_left z] at e
    obtain ⟨q, a, b⟩ := h.2 j x e
    exact ⟨q, by rw [List.getElem?_append_left (by have := h.1; omega)]; exact a, k _ _ b⟩
  · have hj := (List.getElem?_eq_some_iff.mp e).1
    rw [List.length_append, List.length_singleton] at hj
    obtain rfl : j = rs.length := by omega
    rw [List.getElem?_append_right (Nat.le_refl _), Nat.sub_self] at e
    cases e
    exact ⟨p, by rw [List.getElem?_append_right (by have := h.1; omega), h.1, Nat.sub_self]; rfl, hr⟩
section
variable {P : Program} {w : World} {K : PySem.W.Frag} {mg : Str → Option Value} {base : Heap}
/-! ### the law's own cost -/
def spLCost (K : PySem.W.Frag) : Sp := fun vs H Q _ => ∃ (a : Addr) (l : List Int) (o f : Int), vs = [.ref a, .int o, .int f] ∧ H a = some (.tup (iv l)) ∧ l ≠ [] ∧ l.length ≤ 1000 ∧ (∀ y ∈ l, 0 ≤ y) ∧ (0 ≤ o ∧ o ≤ 2000) ∧ (0 ≤ f ∧ f ≤ 20) ∧ ∀ H', Same H H' → Q (.int (cst l o f)) H'
theorem ok_lcost {f : Addr} {fd : FuncData} (F : Fun K "_law_cost" "_law_cost" sLCost f fd) (mS : mg "sum" = none) (mX : mg "max" = none) : FnOk P w K mg base CX0 1 f fd ["parts", "overhead", "faults"] (spLCost K) := by
  refine F.ok scLCost (fun vs H Q E h => ?_) (fun cdv A outer s H vs Q E hr h => ?_)
  · obtain ⟨a, l, o, f, rfl, _⟩ := h
    rfl
  · obtain ⟨a, l, o, f, rfl, ha, hne, hl, h0, ho, hf, q⟩ := h
    refine ⟨_, pss_cons (ps_setLc (i := 3) (own := [("part", 4)]) (g := gName 4) (tt := tYes) (te := tOp (rI0 fun i j => .int (i + j)) (tVar 4) (tVar 1)) rfl scLCost.nd rfl rfl (sw_true rfl rfl rfl rfl)
        (pi_tup (pv 0))
        (blkOk_by (N := ["parts", "overhead", "faults", "lengths", "part"]) (sc := defScope sLCost) (by decide +kernel))
        (fun _ _ _ _ _ => pg_name (i := 4) scLCost.nd rfl (.inl rfl)) (fun _ _ _ _ _ => pts_nil) (fun _ _ _ _ _ => pe_op op_add (pv 4) (pv 1)))
      (pss_one (ps_ret (pe_op op_add (pe_callB (cr_sum rfl) (by rfl) mS (by decide +kernel) (pa_cons (pv 3) pa_nil)) (pe_op op_mul (pv 2) (pe_callB (cr_max rfl) (by rfl) mX (by decide +kernel) (pa_cons (pv 3) pa_nil)))))), ?_⟩
    refine ⟨.ref a, rfl, a, rfl, ⟨_, SqT.of ha⟩, fun D nD => ?_⟩
    refine lc_it walk_tup (fun i H' => Same H H' ∧ H' D = some (.lst (iv ((l.take i).map fun x => x + o)))) ⟨same_new nD, upd_same⟩ (fun i H' _ h => SqT.of (h.1 _ _ ha)) ?_ ?_
    · rintro i v H4 H3 hi ⟨s3, hD⟩ ⟨rfl, hv⟩
      rw [List.length_map] at hi
      have hv' : v = .int (l[i]) := by
        rw [List.getElem?_map, List.getElem?_eq_getElem hi] at hv
        cases hv; rfl
      subst hv'
      refine ⟨rfl, ?_⟩
      dsimp only [tYes]
      rw [if_pos rfl]
      refine ⟨_, rfl, _, rfl, _, _, rfl, rfl, _, hD, ?_, same_upd' s3 nD, ?_⟩
      · rw [List.length_map, List.length_map, List.length_take]; exact small1000 (by omega)
      · rw [upd_same, List.take_succ_eq_append_getElem hi, List.map_append, ← iv_snoc]
        rfl
    rintro H3 ⟨s3, hD⟩
    rw [List.length_map, List.take_length] at hD
    refine ⟨_, rfl, D, _, rfl, SqL.of hD, _, rfl, _, rfl, D, _, rfl, SqL.of hD, ?_, fun m h1 h2 => ?_⟩
    · rw [List.length_map]
      cases l with
      | nil => exact absurd rfl hne
      | cons x r => simp
    · refine ⟨_, _, rfl, rfl, .inl ⟨by omega, by omega⟩, _, _, rfl, rfl, ?_⟩
      rw [mx_plus h0 h1 h2, sum_plus]
      exact q H3 s3
/-! ### all divisions -/
def spDivs (N : Nat) : Sp := fun vs H Q _ => ∃ W m : Nat, vs = [.int W, .int m] ∧ 1 ≤ W ∧ W ≤ 14 ∧ 1 ≤ m ∧ m ≤ N ∧
  ∀ (H' : Hp) (l : Addr) (rs : List Addr), Same H H' → H l = none → H' l = some (.lst (rs.map V.ref)) → DivsAt H' rs (divs (m - 1) W) → Q (.ref l) H'
/-- what a first part gives -/
def dg (n W i : Nat) : List (List Int) := (divs n (W - 1 - i)).map fun r => ((i : Int) + 1) :: r
theorem dg_len {n W i : Nat} (hi : i < W - 1) (hW : W ≤ 14) : (dg n W i).length ≤ 8192 := by
  unfold dg
  rw [List.length_map]
  refine Nat.le_trans (divs_len n _ (by omega)) ?_
  have : 2 ^ (W - 1 - i - 1) ≤ 2 ^ 13 := Nat.pow_le_pow_right (by decide) (by omega)
  exact this
theorem ok_divs {f : Addr} {fd : FuncData} (F : Fun K "_law_divisions" "_law_divisions" sDivs f fd) (bF : Binds K fd ["work", "most"] []) (gF : mg "_law_divisions" = some (.ref f)) (mR : mg "range" = none) : ∀ N : Nat, FnOk P w K mg base CX0 (N + 1) f fd ["work", "most"] (spDivs N) := by
  intro N
  induction N with
  | zero =>
    refine F.ok scDivs (fun vs H Q E h => ?_) (fun cdv A outer s H vs Q E hr h => ?_)
    · obtain ⟨W, m, rfl, _⟩ := h
      rfl
    · obtain ⟨W, m, _, _, _, h1, h2, _⟩ := h
      omega
  | succ N GF =>
    refine F.ok scDivs (fun vs H Q E h => ?_) (fun cdv A outer s H vs Q E hr h => ?_)
    · obtain ⟨W, m, rfl, _⟩ := h
      rfl
    · obtain ⟨W, m, rfl, w1, w2, m1, m2, q⟩ := h
      refine ⟨_, pss_cons (ps_set (i := 2) scDivs.nd rfl (.inl rfl) (pe_lst (pa_cons (pe_tup (pa_cons (pv 0) pa_nil)) pa_nil)))
        (pss_cons (ps_if (pt_cmpR op_gt (pv 1) pe_int (nomark _))
          (pss_one (ps_for PassesOwn.never rfl (pi_range2 (by rfl) mR (pa_cons pe_int (pa_cons (pv 0) pa_nil))) (pg_name (i := 3) scDivs.nd rfl (.inl rfl))
            (pss_one (ps_for PassesOwn.never rfl (pi_list (pe_call GF hr (by rfl) gF F.kp bF .nil pass0 (pa_cons (pe_op op_sub (pv 0) (pv 3)) (pa_cons (pe_op op_sub (pv 1) pe_int) pa_nil)))) (pg_name (i := 4) scDivs.nd rfl (.inl rfl))
              (pss_one (ps_expr (pe_bm PySem.F.plainAttrs_list PySem.F.slot_list_append PySem.F.type_list_append mt_append (pv 2) (pa_cons (pe_op op_catA (pe_tup (pa_cons (pv 3) pa_nil)) (pv 4)) pa_nil)))))))) pss_nil)
        (pss_one (ps_ret (pv 2)))), ?_⟩
      refine ⟨_, rfl, by show 1 ≤ sizeLine; decide, fun a na => ⟨by show 1 ≤ sizeLine; decide, fun L nL => ?_⟩⟩
      have sa := same_new (o := .tup [.int (W : Int)]) na
      have nLH : H L = none := free_of sa nL
      have s1 : Same H (upd (upd H a (.tup [.int (W : Int)])) L (.lst [.ref a])) := sa.trans (same_new nL)
      have D1 : DivsAt (upd (upd H a (.tup [.int (W : Int)])) L (.lst [.ref a])) [a] [[(W : Int)]] := ⟨rfl, fun j r e => by
        cases j with
        | zero => cases e; exact ⟨_, rfl, same_new nL _ _ upd_same⟩
        | succ j => cases e⟩
      refine ⟨_, rfl, _, _, rfl, rfl, _, rfl, ite2 (fun hm => ?_) (fun hm => ?_)⟩
      · have hm2 : 1 < m := by have := of_decide_eq_true hm; omega
        obtain ⟨n, rfl⟩ : ∃ n, m = n + 2 := ⟨m - 2, by omega⟩
        refine ⟨_, rfl, 1, (W : Int), rfl, ⟨by omega, by omega, by omega, by omega⟩, ?_⟩
        rw [show ((W : Int) - 1).toNat = W - 1 by omega]
        refine for_range (fun i σ H' => ∃ (y3 y4 : Option V) (rs : List Addr), σ = [some (.int W), some (.int ((n + 2 : Nat) : Int)), some (.ref L), y3, y4] ∧ Same H H' ∧ H' L = some (.lst (rs.map V.ref)) ∧ rs.length ≤ 1 + i * 8192 ∧ DivsAt H' rs ([(W : Int)] :: (List.range i).flatMap (dg n W)))
          ⟨none, none, [a], rfl, s1, upd_same, Nat.le_refl _, D1⟩ ?_ ?_
        · rintro i σ H1 hi ⟨y3, y4, rs, rfl, s2, hL, hrl, hD⟩
          have ei : (1 : Int) + (i : Int) = (i : Int) + 1 := by omega
          have e1 : (W : Int) - (1 + (i : Int)) = ((W - 1 - i : Nat) : Int) := by omega
          have e2 : ((n + 2 : Nat) : Int) - 1 = ((n + 1 : Nat) : Int) := by omega
          refine ⟨_, rfl, _, rfl, _, _, rfl, rfl, _, rfl, _, _, rfl, rfl, W - 1 - i, n + 1, (by show [V.int _, V.int _] = _; rw [e1, e2]), by omega, by omega, by omega, by omega, fun H2 l ss s3 nl hl hS => ?_⟩
          have ni : l ≠ L := ne_of_none hL nl |>.symm
          refine ⟨l, rfl, ⟨_, SqL.of hl⟩, ?_⟩
          rw [show n + 1 - 1 = n from rfl] at hS
          have dl := dg_len (n := n) hi w2
          have sl : ss.length = (dg n W i).length := by rw [hS.1]; unfold dg; rw [List.length_map]
          refine for_it walk_list (fun j σ H' => ∃ (y4 : Option V) (rs : List Addr), σ = [some (.int W), some (.int ((n + 2 : Nat) : Int)), some (.ref L), some (.int (1 + (i : Int))), y4] ∧ Same H H' ∧ H' l = some (.lst (ss.map V.ref)) ∧ DivsAt H' ss (divs n (W - 1 - i)) ∧ H' L = some (.lst (rs.map V.ref)) ∧ rs.length ≤ 1 + i * 8192 + j ∧ DivsAt H' rs (([(W : Int)] :: (List.range i).flatMap (dg n W)) ++ (dg n W i).take j))
            ⟨_, rs, rfl, s2.trans s3, hl, hS, s3 _ _ hL, by omega, by rw [List.take_zero, List.append_nil]; exact hD.same s3⟩
            (fun j σ H' _ h => by obtain ⟨_, _, _, _, h, _⟩ := h; exact SqL.of h) ?_ ?_
          · rintro j v σ H4 H3 hj ⟨y4, rs, rfl, s4, hl4, hS4, hL4, hrl4, hD4⟩ ⟨rfl, hv⟩
            rw [List.length_map] at hj
            obtain ⟨r, hr⟩ : ∃ r, ss[j]? = some r := ⟨_, List.getElem?_eq_getElem hj⟩
            have hv' : v = .ref r := by
              rw [List.getElem?_map, hr] at hv
              cases hv; rfl
            subst hv'
            obtain ⟨p, hp1, hp2⟩ := hS4.2 j r hr
            refine ⟨.ref L, rfl, .inl ⟨rfl, _, SqL.of hL4⟩, _, rfl, by show 1 ≤ sizeLine; decide, fun Z nZ => ⟨.ref r, rfl, ?_⟩⟩
            have sZ := same_new (o := .tup [.int (1 + (i : Int))]) nZ
            have pl : p.length ≤ 999 := by
              have := (divs_are n (W - 1 - i) (by omega) p (List.mem_of_getElem? hp1)).sum
              have pp := (divs_are n (W - 1 - i) (by omega) p (List.mem_of_getElem? hp1)).pos
              have g : ∀ l : List Int, (∀ y ∈ l, 1 ≤ y) → (l.length : Int) ≤ l.sum := fun l => by
                induction l with
                | nil => intro _; simp
                | cons x xs ih =>
                  intro h
                  have a1 := h x List.mem_cons_self
                  have a2 := ih fun y hy => h y (List.mem_cons_of_mem _ hy)
                  rw [List.sum_cons, List.length_cons]
                  omega
              have := g p pp
              omega
            refine cat_any (xs := [.int (1 + (i : Int))]) upd_same (sZ _ _ hp2) (by simp; omega) fun H5 t s5 ht => ?_
            have s45 := sZ.trans s5
            have hL5 := s45 _ _ hL4
            refine ⟨L, _, _, rfl, rfl, hL5, ?_, ?_⟩
            · rw [List.length_map]; exact wide_small (by omega)
            have ts : ∀ b xs, H5 b = some (.tup xs) → upd H5 L (.lst (rs.map V.ref ++ [V.ref t])) b = some (.tup xs) := fun b xs e => by
              rw [upd_ne (ne_of e hL5 (by intro z; cases z))]; exact e
            refine ⟨_, rs ++ [t], rfl, same_upd' (s4.trans s45) nLH, ?_, ?_, ?_, ?_, ?_⟩
            · rw [upd_ne ni]; exact s45 _ _ hl4
            · refine ⟨hS4.1, fun j2 r2 e => ?_⟩
              obtain ⟨p2, b1, b2⟩ := hS4.2 j2 r2 e
              exact ⟨p2, b1, ts _ _ (s45 _ _ b2)⟩
            · rw [upd_same, List.map_append]; rfl
            · rw [List.length_append, List.length_singleton]; omega
            · have hg : (dg n W i)[j]? = some (((i : Int) + 1) :: p) := by unfold dg; rw [List.getElem?_map, hp1]; rfl
              have hjl : j < (dg n W i).length := (List.getElem?_eq_some_iff.mp hg).1
              have hge : (dg n W i)[j] = ((i : Int) + 1) :: p := Option.some.inj (by rw [← hg, List.getElem?_eq_getElem hjl])
              rw [List.take_succ_eq_append_getElem hjl, ← List.append_assoc, hge]
              refine (hD4.same s45).snoc ts ?_
              rw [ts t _ ht, ei]
              rfl
          · rintro σ H3 ⟨y4, rs, rfl, s4, hl4, hS4, hL4, hrl4, hD4⟩
            rw [List.length_map] at hrl4 hD4
            refine ⟨_, _, rs, rfl, s4, hL4, by omega, ?_⟩
            rw [sl, List.take_length] at hD4
            have e : (List.range (i + 1)).flatMap (dg n W) = (List.range i).flatMap (dg n W) ++ dg n W i := by
              rw [List.range_succ, List.flatMap_append, List.flatMap_cons, List.flatMap_nil, List.append_nil]
            rw [e]
            exact hD4
        · rintro σ H1 ⟨y3, y4, rs, rfl, s2, hL, hrl, hD⟩
          exact ⟨_, rfl, q H1 L rs s2 nLH hL hD⟩
      · have hm2 : m = 1 := by
          by_cases z : 1 < m
          · exact absurd (decide_eq_true (by omega)) hm
          · omega
        subst hm2
        exact ⟨_, rfl, q _ L [a] s1 nLH upd_same D1⟩
end
end Fd

set_option Elab.async false
set_option linter.all false
set_option maxRecDepth 100000
set_option maxHeartbeats 4000000
/-! sorted(t, reverse=b), t a tuple of ints -/
namespace FdS
open PySem PyProof.Rows
section
variable {prog : Program} {w : World} {A : Around} {E : Value → Shared → Prop} {s : Shared}
theorem collect_tup {a : Addr} {its : List Value} {Q : List Value → Shared → Prop} (ht : s.heap.IsTuple a its.toArray)
    (q : Q its { s with heap := (s.heap.push (seqObj "list" #[] 0)).update s.heap.objs.size (Obj.mapSeq (· ++ its.toArray)) }) (hz : its.length ≤ sizeLine) : wpAny (model prog w) A (collect (.ref a)) Q E s := by
  obtain ⟨ob, e0, cl, nn, dt⟩ := id ht
  unfold collect
  refine wpAny_bind (wpAny_runValue (codeAny_builtin entry_proto_collect' ?run))
  case run =>
    show wpAny _ _ (do again (.builtin "list.__iadd__" ⟨[← newList [], .ref a], []⟩)) _ _ s
    refine wpAny_bind (wpAny_newList (wpAny_pure ⟨Code.quiet_builtin _ (by decide +kernel), codeAny_builtin entry_list_iadd' ?add⟩))
    case add =>
      show wpAny _ _ (Builtin.List.listExtendWith (.ref s.heap.objs.size) (.ref a) (.ref s.heap.objs.size)) _ _ { s with heap := s.heap.push (seqObj "list" #[] 0) }
      unfold Builtin.List.listExtendWith
      have e1 : (s.heap.push (seqObj "list" #[] 0)).get? a = some ob := Heap.get?_push_of_some _ e0
      refine wpAny_bind (wpAny_typeOf (T := "tuple") ⟨ob, e1, cl⟩ ?_)
      have same : (Value.type "tuple" == Value.type "tuple") = true := by rfl
      rw [if_pos (by rw [same]; simp)]
      refine wpAny_bind (listItems_at e1 dt ?_)
      refine wpAny_bind (listItems_at (n := 0) (xs := #[]) (Heap.get?_push_size _ rfl) rfl ?_)
      rw [if_neg (by simp)]
      refine wpAny_bind (listUpdate_at (n := 0) (xs := #[]) (Heap.get?_push_size _ rfl) rfl ?_ (Nat.zero_le _) (by show (#[] ++ its.toArray).size ≤ sizeLine + 1; simp only [Array.size_append, List.size_toArray, List.length_nil]; omega))
      refine wpAny_pure ?_
      show wpAny (model prog w) A (do let o ← load s.heap.objs.size; match o.data with | .seq xs _ => pure xs.toList | _ => unsupported "internal:collect") Q E { s with heap := (s.heap.push (seqObj "list" #[] 0)).update s.heap.objs.size (Obj.mapSeq (· ++ its.toArray)) }
      refine wpAny_bind (wpAny_load (get?_update_seq (Heap.get?_push_size _ rfl) _) ?_)
      show wpAny _ _ (pure ((#[] : Array Value) ++ its.toArray).toList) Q E _
      have e2 : ((#[] : Array Value) ++ its.toArray).toList = its := by simp
      rw [e2]
      exact wpAny_pure q
theorem sorted_tup {a : Addr} {its : List Value} {b : Bool} {kw : List (Str × Value)} {ltv : Value → Value → Bool} {Q : Value → Shared → Prop}
    (hk : ∀ c, Builtin.«list.sort» ⟨[.ref c], kw⟩ = Builtin.«list.sort» ⟨[.ref c], [(Str.ofString "reverse", .bool b)]⟩) (g1 : argsOk "sorted" ⟨[.ref a], kw⟩) (g2 : ∀ c, argsOk "list.sort" ⟨[c], kw⟩)
    (O : SrtO.Swo ltv) (ht : s.heap.IsTuple a its.toArray) (hz : its.length ≤ sizeLine)
    (hS : 2 ≤ its.length → ∀ (hp : Heap) (c : Addr), hp.get? c = some (seqObj "list" its.toArray 0) → (∀ d o, s.heap.get? d = some o → d ≠ c ∧ hp.get? d = some o) → SrtO.SortableO prog w A.in1.in1 { s with heap := hp } c its ltv)
    (q : ∀ out : List Value, SrtO.Srtd ltv out → SrtO.Stb ltv out (if b = true then its.reverse else its) → Q (.ref (s.heap.objs.size + 1)) { s with heap := sortedAll s.heap its (if b = true then out.toArray.reverse else out.toArray) }) :
    wpAny (model prog w) A (call (.builtin "sorted") [.ref a] kw) Q E s := by
  refine call_function_entry_kw kind_sorted plain_sorted entry_sorted g1 ?_
  unfold Builtin.«sorted»
  refine wpAny_bind (m := checkCount "sorted" 1 1 _) (wpAny_pure ?_)
  refine wpAny_bind (collect_tup ht ?_ hz)
  refine wpAny_bind (wpAny_newList ?_ hz)
  have z1 : ((s.heap.push (seqObj "list" #[] 0)).update s.heap.objs.size (Obj.mapSeq (· ++ its.toArray))).objs.size = s.heap.objs.size + 1 := by rw [Heap.size_update, size_push']
  have z2 : (((s.heap.push (seqObj "list" #[] 0)).update s.heap.objs.size (Obj.mapSeq (· ++ its.toArray))).push (seqObj "list" its.toArray 0)).get? (s.heap.objs.size + 1) = some (seqObj "list" its.toArray 0) := by
    rw [← z1]; exact Heap.get?_push_size _ rfl
  have z3 : ∀ d o, s.heap.get? d = some o → d ≠ s.heap.objs.size + 1 ∧ (((s.heap.push (seqObj "list" #[] 0)).update s.heap.objs.size (Obj.mapSeq (· ++ its.toArray))).push (seqObj "list" its.toArray 0)).get? d = some o := fun d o e => by
    have lt : d < s.heap.objs.size := Heap.lt_size e
    refine ⟨Nat.ne_of_lt (Nat.lt_succ_of_lt lt), Heap.get?_push_of_some _ ?_⟩
    rw [Heap.get?_update_ne _ _ _ _ (Nat.ne_of_lt lt)]
    exact Heap.get?_push_of_some _ e
  show wpAny _ _ _ _ _ { s with heap := ((s.heap.push (seqObj "list" #[] 0)).update s.heap.objs.size (Obj.mapSeq (· ++ its.toArray))).push (seqObj "list" its.toArray 0) }
  rw [z1]
  refine wpAny_bind (wpAny_holding (wpAny_call_entry_kw slot_list_sort ⟨_, z2, rfl⟩ entry_list_sort ?_ (g2 _)))
  rw [hk]
  refine SrtR.list_sort_ordR O z2 hz (fun two => hS two _ _ z2 z3) fun out o1 o2 => ⟨_, rfl, ?_⟩
  exact wpAny_pure ⟨_, rfl, q out o1 o2⟩
end
end FdS
namespace Fd
open PySem PySem.Spec PyProof.Rows L2
def rSortedKwT (K : PySem.W.Frag) (b : Bool) : List V → List V → Hp → VK → Prop := fun vs zs H Q => ∃ (a : Addr) (ns : List Int), vs = [V.ref a] ∧ zs = [.bl b] ∧ SqT K H a (ns.map V.int) ∧
  ∀ (ns' : List Int) (p : Addr), ns'.Perm ns → OrdB b ns' → H p = none → Q (.ref p) (upd H p (.lst (ns'.map V.int)))
section
variable {X : Cx}
theorem cr_sortedRevT {b : Bool} : CallRK X (.builtin "sorted") [Str.ofString "reverse"] (rSortedKwT X.K b) := by
  intro pins s σ H vs zs us ws Q I r rz h
  obtain ⟨a, ns, rfl, rfl, hs, q⟩ := h
  obtain rfl := Vals.ref1 r
  obtain ⟨w1, rfl, e1⟩ := vals1 rz
  obtain rfl : w1 = Value.bool b := e1
  obtain ⟨its, rv, ht, hz⟩ := I.tuple hs
  have hi := rv.ints
  refine FdS.sorted_tup (kw := [(Str.ofString "reverse", .bool b)]) (fun _ => rfl) (args_sorted_rev _ _) (fun _ => args_list_sort_rev _ _) SrtO.swo_int (show s.heap.IsTuple a its.toArray from ht) (by rw [← rv.length]; exact hz) (fun two hp c _ _ => SrtO.ints_sortable hi two) fun out h1 h2 => ?_
  obtain ⟨ns', k1, k2, k3⟩ := SrtR.ints_outR hi h1 h2
  obtain ⟨ep, he⟩ := sortedAll_at s.heap its (if b = true then out.toArray.reverse else out.toArray)
  have hlen : (ns'.map V.int).length ≤ sizeLine := by
    rw [List.length_map, k2.length_eq]
    rw [List.length_map] at hz
    exact hz
  have e0 : ((if b = true then out.toArray.reverse else out.toArray).toList).toArray = (if b = true then out.toArray.reverse else out.toArray) := by rw [Array.toArray_toList]
  have n1 := I.hok.fresh (Nat.le_succ s.heap.objs.size)
  exact ⟨.ref _, upd H (s.heap.objs.size + 1) (.lst (ns'.map V.int)), I.laid (t' := s.toks) (fun _ _ => sortedAll_old) (Nat.le_succ _) ⟨hlen, _, ep, vals_of_ints k1, by rw [e0]; exact he⟩, rfl, q _ _ k2 k3 n1⟩
end
end Fd

set_option Elab.async false
set_option linter.all false
set_option maxRecDepth 100000
set_option maxHeartbeats 2000000
/-! Data that repr shows: ints, bools, budgets; more of the heap. -/
namespace Fd
open PySem PySem.Spec PyProof.Rows L2 RZ
theorem small_log {x : Int} (h : x.natAbs < 10 ^ 12) : x.natAbs.log2 < 1920 := by
  refine log2_small (Nat.lt_of_lt_of_le h ?_)
  decide +kernel
/-- a row of ints -/
theorem ints_small : ∀ (l : List Int), (∀ x ∈ l, x.natAbs < 10 ^ 12) → PyData.showableAll (l.map PyData.int) = true ∧ PyData.hasDictAll (l.map PyData.int) = false ∧ PyData.leavesShortAll 13 (l.map PyData.int) = true ∧
    PyData.bulkAll (l.map PyData.int) = l.length ∧ PyData.depthAll (l.map PyData.int) ≤ 1
  | [], _ => by simp [PyData.showableAll, PyData.hasDictAll, PyData.leavesShortAll, PyData.bulkAll, PyData.depthAll]
  | x :: l, h => by
    obtain ⟨h1, h2, h3, h4, h5⟩ := ints_small l fun y hy => h y (List.mem_cons_of_mem _ hy)
    have hx := h x List.mem_cons_self
    have e1 := PyData.shown_int_le hx
    have e2 := small_log hx
    refine ⟨?_, ?_, ?_, ?_, ?_⟩
    · simp only [List.map_cons, PyData.showableAll, PyData.showable, h1, e2, decide_true, Bool.and_self]
    · simp only [List.map_cons, PyData.hasDictAll, PyData.hasDict, h2, Bool.or_self]
    · simp only [List.map_cons, PyData.leavesShortAll, PyData.leavesShort, h3, e1, decide_true, Bool.and_self]
    · simp only [List.map_cons, PyData.bulkAll, PyData.bulk, h4, List.length_cons]; omega
    · simp only [List.map_cons, PyData.depthAll, PyData.depth]; omega
theorem small_list {l : List Int} (h : ∀ x ∈ l, x.natAbs < 10 ^ 12) (hl : l.length ≤ 100000) : smallD (.list (l.map PyData.int)) := by
  obtain ⟨h1, h2, h3, h4, h5⟩ := ints_small l h
  refine ⟨by simpa only [PyData.showable] using h1, by simpa only [PyData.hasDict] using h2, by simpa only [PyData.leavesShort] using h3, ?_, ?_⟩
  · simp only [PyData.bulk]; omega
  · simp only [PyData.depth]; omega
theorem small_tup {l : List Int} (h : ∀ x ∈ l, x.natAbs < 10 ^ 12) (hl : l.length ≤ 100000) : smallD (.tuple (l.map PyData.int)) := by
  obtain ⟨h1, h2, h3, h4, h5⟩ := ints_small l h
  refine ⟨by simpa only [PyData.showable] using h1, by simpa only [PyData.hasDict] using h2, by simpa only [PyData.leavesShort] using h3, ?_, ?_⟩
  · simp only [PyData.bulk]; omega
  · simp only [PyData.depth]; omega
theorem small_bool (b : Bool) : smallD (.bool b) := by
  refine ⟨by simp only [PyData.showable], by simp only [PyData.hasDict], by simp only [PyData.leavesShort], ?_, ?_⟩
  · simp only [PyData.bulk]; omega
  · simp only [PyData.depth]; omega
theorem small_int {x : Int} (h : x.natAbs < 10 ^ 12) : smallD (.int x) := by
  have e1 := PyData.shown_int_le h
  have e2 := small_log h
  refine ⟨by simp only [PyData.showable, e2, decide_true], by simp only [PyData.hasDict], by simp only [PyData.leavesShort, e1, decide_true], ?_, ?_⟩
  · simp only [PyData.bulk]; omega
  · simp only [PyData.depth]; omega
theorem dp_ints {K : PySem.W.Frag} {H : Hp} : ∀ l : List Int, DpAll K H (iv l) (l.map PyData.int)
  | [] => .nil
  | x :: l => .cons (.int x) (dp_ints l)
theorem dp_list {K : PySem.W.Frag} {H : Hp} {a : Addr} {l : List Int} (h : H a = some (.lst (iv l))) : Dp K H (.ref a) (.list (l.map PyData.int)) := .lst (SqL.of h) (dp_ints l)
theorem dp_tup {K : PySem.W.Frag} {H : Hp} {a : Addr} {l : List Int} (h : H a = some (.tup (iv l))) : Dp K H (.ref a) (.tuple (l.map PyData.int)) := .tup (SqT.of h) (dp_ints l)
/-- a name that repr shows shortly -/
def nmOk (x : Str) : Prop := x.cps.size ≤ 10 ∧ (x.cps.toList.all fun c => decide (c < 16 ^ 8)) = true
def bdD (b : Bd) : PyData := .tuple [.str b.nm, .int b.cap, .int b.par]
def bdOk (b : Bd) : Prop := nmOk b.nm ∧ b.cap.natAbs < 10 ^ 12 ∧ b.par.natAbs < 10 ^ 12
theorem buds_small : ∀ (B : List Bd), (∀ b ∈ B, bdOk b) → PyData.showableAll (B.map bdD) = true ∧ PyData.hasDictAll (B.map bdD) = false ∧ PyData.leavesShortAll 13 (B.map bdD) = true ∧
    PyData.bulkAll (B.map bdD) ≤ 20 * B.length ∧ PyData.depthAll (B.map bdD) ≤ 3
  | [], _ => by simp [PyData.showableAll, PyData.hasDictAll, PyData.leavesShortAll, PyData.bulkAll, PyData.depthAll]
  | b :: B, h => by
    obtain ⟨h1, h2, h3, h4, h5⟩ := buds_small B fun y hy => h y (List.mem_cons_of_mem _ hy)
    obtain ⟨⟨n1, n2⟩, c, p⟩ := h b List.mem_cons_self
    have e1 := PyData.shown_int_le c
    have e2 := small_log c
    have e3 := PyData.shown_int_le p
    have e4 := small_log p
    refine ⟨?_, ?_, ?_, ?_, ?_⟩
    · simp only [List.map_cons, bdD, PyData.showableAll, PyData.showable, e2, e4, decide_true, Bool.and_self, Bool.true_and]
      exact h1
    · simp only [List.map_cons, bdD, PyData.hasDictAll, PyData.hasDict, Bool.or_self, Bool.false_or]
      exact h2
    · simp only [List.map_cons, bdD, PyData.leavesShortAll, PyData.leavesShort, e1, e3, n2, decide_true, Bool.and_self, Bool.true_and]
      exact h3
    · have q : PyData.bulkAll (B.map bdD) ≤ 20 * B.length := h4
      simp only [List.map_cons, bdD, PyData.bulkAll, PyData.bulk, List.length_cons]
      omega
    · have q : PyData.depthAll (B.map bdD) ≤ 3 := h5
      simp only [List.map_cons, bdD, PyData.depthAll, PyData.depth]
      omega
theorem small_buds {B : List Bd} (h : ∀ b ∈ B, bdOk b) (hl : B.length ≤ 1000) : smallD (.tuple (B.map bdD)) := by
  obtain ⟨h1, h2, h3, h4, h5⟩ := buds_small B h
  refine ⟨by simpa only [PyData.showable] using h1, by simpa only [PyData.hasDict] using h2, by simpa only [PyData.leavesShort] using h3, ?_, ?_⟩
  · simp only [PyData.bulk]; omega
  · simp only [PyData.depth]; omega
theorem dp_buds {K : PySem.W.Frag} {H : Hp} {p : Addr} {B : List Bd} (h : BudAt H p B) : Dp K H (.ref p) (.tuple (B.map bdD)) := by
  obtain ⟨rs, h1, h2, h3⟩ := h
  refine .tup (SqT.of h1) ?_
  clear h1
  induction B generalizing rs with
  | nil =>
    have e : rs = [] := List.length_eq_zero_iff.mp h2
    subst e
    exact .nil
  | cons b B ih =>
    cases rs with
    | nil => cases h2
    | cons r rs =>
      obtain ⟨r', e1, e2⟩ := h3 0 b rfl
      obtain rfl : r = r' := Option.some.inj e1
      refine .cons (.tup (SqT.of e2) (.cons (.str _) (.cons (.int _) (.cons (.int _) .nil)))) (ih rs (by simpa using h2) fun i b' e => ?_)
      obtain ⟨r2, g1, g2⟩ := h3 (i + 1) b' (by simpa using e)
      exact ⟨r2, by simpa using g1, g2⟩
/-! ### what is used stays small -/
theorem U_bound {B : List Bd} {f : Nat → Int} {c : Int} (hc : 0 ≤ c) (hf : ∀ j, j < B.length → 0 ≤ f j ∧ f j ≤ c) (k : Nat) : 0 ≤ U B f k ∧ U B f k ≤ B.length * c := by
  unfold U
  refine ⟨sm_nonneg fun j hj => ?_, sm_le fun j hj => ?_⟩
  · split
    · exact (hf j hj).1
    · exact Int.le_refl 0
  · split
    · exact (hf j hj).2
    · exact hc
end Fd

set_option Elab.async false
set_option linter.all false
set_option maxRecDepth 100000
set_option maxHeartbeats 4000000
namespace Fd
open PySem PySem.Spec PyProof.Rows L2 RZ
theorem sl_any {K : PySem.W.Frag} {H : Hp} {a : Addr} {xs : List V} {lo hi : Option Int} {Q : VK} (ha : H a = some (.tup xs)) (q : ∀ H' t, Same H H' → H' t = some (.tup (cutV xs lo hi)) → Q (.ref t) H') : rSlA K (.ref a) lo hi H Q := by
  refine ⟨a, xs, rfl, SqT.of ha, fun e => ?_, fun _ t nt => q _ t (same_new nt) upd_same⟩
  refine q H a (Same.refl _) ?_
  unfold cutV
  rw [e.1, e.2]
  simpa using ha
/-- slices, wherever K is what is written -/
theorem slT {X : Cx} {K : PySem.W.Frag} (h : X.K = K) : SlR X (rSlA K) := h ▸ sl_tupA
def rLenSeq (K : PySem.W.Frag) : List V → Hp → VK → Prop := fun xs H Q => ∃ p ys, xs = [.ref p] ∧ (SqL K H p ys ∨ SqT K H p ys) ∧ Q (.int (List.length ys : Nat)) H
theorem lenSeq {X : Cx} {K : PySem.W.Frag} (h : X.K = K) : CallR X (.builtin "len") (rLenSeq K) := h ▸ call_len_seq
theorem cut2 (x y z : V) : cutV [x, y, z] none (some 2) = [x, y] := rfl
theorem nat_small6 {x : Int} (h0 : 0 ≤ x) (h1 : x ≤ 1000000) : x.natAbs < 10 ^ 12 := by
  have e : (10 : Nat) ^ 12 = 1000000000000 := by decide
  omega
theorem pairs_small : ∀ (l : List (Int × Int)), (∀ p ∈ l, p.1.natAbs < 10 ^ 12 ∧ p.2.natAbs < 10 ^ 12) → PyData.showableAll (l.map pairD) = true ∧ PyData.hasDictAll (l.map pairD) = false ∧ PyData.leavesShortAll 13 (l.map pairD) = true ∧
    PyData.bulkAll (l.map pairD) ≤ 20 * l.length ∧ PyData.depthAll (l.map pairD) ≤ 3
  | [], _ => by simp [PyData.showableAll, PyData.hasDictAll, PyData.leavesShortAll, PyData.bulkAll, PyData.depthAll]
  | b :: B, h => by
    obtain ⟨h1, h2, h3, h4, h5⟩ := pairs_small B fun y hy => h y (List.mem_cons_of_mem _ hy)
    obtain ⟨c, p⟩ := h b List.mem_cons_self
    have e1 := PyData.shown_int_le c
    have e2 := small_log c
    have e3 := PyData.shown_int_le p
    have e4 := small_log p
    refine ⟨?_, ?_, ?_, ?_, ?_⟩
    · simp only [List.map_cons, pairD, PyData.showableAll, PyData.showable, e2, e4, decide_true, Bool.and_self, Bool.true_and]
      exact h1
    · simp only [List.map_cons, pairD, PyData.hasDictAll, PyData.hasDict, Bool.or_self, Bool.false_or]
      exact h2
    · simp only [List.map_cons, pairD, PyData.leavesShortAll, PyData.leavesShort, e1, e3, decide_true, Bool.and_self, Bool.true_and]
      exact h3
    · have q : PyData.bulkAll (B.map pairD) ≤ 20 * B.length := h4
      simp only [List.map_cons, pairD, PyData.bulkAll, PyData.bulk, List.length_cons]
      omega
    · have q : PyData.depthAll (B.map pairD) ≤ 3 := h5
      simp only [List.map_cons, pairD, PyData.depthAll, PyData.depth]
      omega
theorem small_pairs {l : List (Int × Int)} (h : ∀ p ∈ l, p.1.natAbs < 10 ^ 12 ∧ p.2.natAbs < 10 ^ 12) (hl : l.length ≤ 1000) : smallD (.tuple (l.map pairD)) := by
  obtain ⟨h1, h2, h3, h4, h5⟩ := pairs_small l h
  refine ⟨by simpa only [PyData.showable] using h1, by simpa only [PyData.hasDict] using h2, by simpa only [PyData.leavesShort] using h3, ?_, ?_⟩
  · simp only [PyData.bulk]; omega
  · simp only [PyData.depth]; omega
theorem small_pair {x y : Int} (h1 : x.natAbs < 10 ^ 12) (h2 : y.natAbs < 10 ^ 12) : smallD (.tuple [.int x, .int y]) := by
  have q := small_tup (l := [x, y]) (fun z hz => by
    rcases List.mem_cons.mp hz with rfl | hz
    · exact h1
    · rw [List.mem_singleton.mp hz]; exact h2) (by show 2 ≤ 100000; omega)
  exact q
theorem small_best {x y : Int} {l : List Int} (h1 : x.natAbs < 10 ^ 12) (h2 : y.natAbs < 10 ^ 12) (h : ∀ z ∈ l, z.natAbs < 10 ^ 12) (hl : l.length ≤ 1000) : smallD (.tuple [.int x, .int y, .tuple (l.map PyData.int)]) := by
  obtain ⟨g1, g2, g3, g4, g5⟩ := ints_small l h
  have e1 := PyData.shown_int_le h1
  have e2 := small_log h1
  have e3 := PyData.shown_int_le h2
  have e4 := small_log h2
  refine ⟨?_, ?_, ?_, ?_, ?_⟩
  · simp only [PyData.showable, PyData.showableAll, e2, e4, g1, decide_true, Bool.and_self]
  · simp only [PyData.hasDict, PyData.hasDictAll, g2, Bool.or_self]
  · simp only [PyData.leavesShort, PyData.leavesShortAll, e1, e3, g3, decide_true, Bool.and_self]
  · simp only [PyData.bulk, PyData.bulkAll]
    omega
  · simp only [PyData.depth, PyData.depthAll]
    omega
theorem dp_pairs {K : PySem.W.Frag} {H : Hp} : ∀ (rs : List Addr) (k : Nat → Int × Int), (∀ (j : Nat) (r : Addr), rs[j]? = some r → H r = some (.tup [.int (k j).1, .int (k j).2])) → DpAll K H (rs.map V.ref) (((List.range rs.length).map k).map pairD)
  | [], k, _ => .nil
  | r :: rs, k, h => by
    have q := dp_pairs (K := K) rs (fun j => k (j + 1)) fun j x e => h (j + 1) x e
    rw [List.length_cons, List.range_succ_eq_map, List.map_cons, List.map_cons, List.map_map]
    exact .cons (.tup (SqT.of (h 0 r rfl)) (.cons (.int _) (.cons (.int _) .nil))) q
theorem cst_bd {W c : Nat} {o f : Int} (w2 : W ≤ 1000) (c1 : 1 ≤ c) (c6 : c ≤ 6) (ho : 0 ≤ o ∧ o ≤ 2000) (hf : 0 ≤ f ∧ f ≤ 20) : 0 ≤ cst (evenL W c) o f ∧ cst (evenL W c) o f ≤ 1000000 := by
  have hc : 0 < c := c1
  have m : mxL (evenL W c) ≤ (W : Int) := by
    refine mx_even hc ?_
    have : (1 : Int) * W ≤ c * W := Int.mul_le_mul_of_nonneg_right (by omega) (by omega)
    omega
  have m0 := mxL_nonneg (evenL W c)
  unfold cst
  rw [evenL_sum hc, evenL_len hc]
  have a1 : 0 ≤ o * (c : Int) := Int.mul_nonneg ho.1 (by omega)
  have a2 : o * (c : Int) ≤ 2000 * c := Int.mul_le_mul_of_nonneg_right ho.2 (by omega)
  have a3 : 0 ≤ f * (mxL (evenL W c) + o) := Int.mul_nonneg hf.1 (by omega)
  have a4 : f * (mxL (evenL W c) + o) ≤ 20 * (mxL (evenL W c) + o) := Int.mul_le_mul_of_nonneg_right hf.2 (by omega)
  omega
/-- the least of all divisions is the best even one -/
theorem least_even {W : Nat} {o f : Int} (hf : 0 ≤ f) (w1 : 1 ≤ W) {p : List Int} (hp : p ∈ divs 5 W) (h : ∀ q ∈ divs 5 W, lexLe (cst p o f, (p.length : Int)) (cst q o f, (q.length : Int))) :
    BestC W o f p.length ∧ cst p o f = cst (evenL W p.length) o f := by
  have d := divs_are 5 W w1 p hp
  have ev : ∀ c : Nat, 1 ≤ c → c ≤ min 6 W → evenL W c ∈ divs 5 W := fun c c1 c2 => divs_all 5 W _ ⟨evenL_ne c1, by rw [evenL_len' c1]; omega, fun y hy => evenL_pos c1 (by omega) hy, evenL_sum c1⟩
  have p1 : 1 ≤ p.length := by
    cases hq : p with
    | nil => exact absurd hq d.ne
    | cons a r => simp
  have p6 := d.len
  have pW : p.length ≤ W := by
    have g : ∀ l : List Int, (∀ y ∈ l, 1 ≤ y) → (l.length : Int) ≤ l.sum := fun l => by
      induction l with
      | nil => intro _; simp
      | cons x xs ih =>
        intro h
        have a1 := h x List.mem_cons_self
        have a2 := ih fun y hy => h y (List.mem_cons_of_mem _ hy)
        rw [List.sum_cons, List.length_cons]
        omega
    have := g p d.pos
    rw [d.sum] at this
    omega
  have le1 := even_least d.ne d.sum (o := o) hf
  have le2 := h _ (ev p.length p1 (by omega))
  rw [evenL_len' p1] at le2
  unfold lexLe at le2
  dsimp only at le2
  have e : cst p o f = cst (evenL W p.length) o f := by omega
  refine ⟨⟨p1, by omega, fun c c1 c2 => ?_⟩, e⟩
  have := h _ (ev c c1 c2)
  rw [evenL_len' c1, e] at this
  exact this
/-- the even division, sorted, greater ones first -/
theorem even_sorted {W c : Nat} {l : List Int} (hp : l.Perm (evenL W c)) (hs : l.Pairwise (· ≥ ·)) : l = evenL W c :=
  List.Perm.eq_of_pairwise (le := fun a b => a ≥ b) (fun a b _ _ h1 h2 => by omega) hs (evenL_desc W c) hp
theorem even_gap {W c : Nat} {x y : Int} (hx : x ∈ evenL W c) (hy : y ∈ evenL W c) : ¬ (1 < x - y) := by
  have a := evenL_mem hx
  have b := evenL_mem hy
  generalize W / c = k at a b
  omega
end Fd
namespace Fd
open PySem PySem.Spec PyProof.Rows L2 RZ
theorem shaped_ints (l : List Int) : SeqAt.shaped (.tuple (l.map PyData.int)) = true := by
  have h : PyData.canLayAll0 (l.map PyData.int) = true ∧ PyData.depthAll (l.map PyData.int) ≤ 1 := by
    induction l with
    | nil => exact ⟨by simp [PyData.canLayAll0], by simp [PyData.depthAll]⟩
    | cons x r ih =>
      refine ⟨by simp [PyData.canLayAll0, PyData.canLay0, ih.1], ?_⟩
      have := ih.2
      simp only [List.map_cons, PyData.depthAll, PyData.depth]
      omega
  unfold SeqAt.shaped
  have h2 := h.2
  simp only [PyData.canLay0, PyData.depth, h.1, Bool.true_and]
  exact decide_eq_true (by omega)
theorem eqv_ints (l : List Int) : PyData.eqv (.tuple (l.map PyData.int)) (.tuple (l.map PyData.int)) = true := by
  have h := shaped_ints l
  exact SeqAt.eqv_refl _ (SeqAt.canLay_of_shaped h)
end Fd
namespace Fd
open PySem PySem.Spec PyProof.Rows L2 RZ
theorem BoxAt.tsb {H : Hp} {b D : Addr} {ds : List Int} {n : Nat} (h : BoxAt H b D ds n) : Ts H (upd H b (.lst [.ref D, .int (n + 1 : Nat)])) := Ts.upd fun xs q => by rw [h.1] at q; cases q
end Fd

set_option Elab.async false
set_option linter.all false
set_option maxRecDepth 100000
set_option maxHeartbeats 4000000
namespace Fd
open PySem PySem.Spec PyProof.Rows L2 RZ
abbrev sLaw : Stmt := topL 15
abbrev NLaw : List Str := ["script", "box", "overhead", "faults", "work", "parts", "rows", "least", "count", "told", "great", "far", "many", "hits", "found", "table", "part", "k"]
theorem scLaw : FnScope NLaw ["script"] (defScope sLaw) := ⟨rfl, rfl, rfl, by decide +kernel, rfl, by decide +kernel, by decide +kernel⟩
section
variable {P : Program} {w : World} {K : PySem.W.Frag} {mg : Str → Option Value} {base : Heap}
def spLaw (K : PySem.W.Frag) : Sp := fun vs H Q _ => ∃ (a : Addr) (ns : List Int), vs = [.ref a] ∧ SqL K H a (iv ns) ∧ ns.length ≤ 63 ∧ ∀ H', Q (.bl true) H'
theorem st3 (a b : Addr) (o f : Int) : (((L2.start NLaw [V.ref a]).set 1 (some (.ref b))).set 2 (some (.int o))).set 3 (some (.int f)) =
    [some (.ref a), some (.ref b), some (.int o), some (.int f), none, none, none, none, none, none, none, none, none, none, none, none, none, none] := rfl
theorem ok_law {f fDi fD fS fC fV fE fB fK fO : Addr} {fd fdDi fdD fdS fdC fdV fdE fdB fdK fdO : FuncData} (F : Fun K "law" "law" sLaw f fd)
    (FDi : Fun K "_law_digits" "_law_digits" sDigits fDi fdDi) (GDi : FnOk P w K mg base CX0 2 fDi fdDi ["script", "first", "last"] (spDigits K)) (bDi : Binds K fdDi ["script", "first", "last"] []) (gDi : mg "_law_digits" = some (.ref fDi))
    (FD : Fun K "_law_draw" "_law_draw" sDraw fD fdD) (GD : FnOk P w K mg base CX0 1 fD fdD ["box", "many"] spDraw) (bD : Binds K fdD ["box", "many"] []) (gD : mg "_law_draw" = some (.ref fD))
    (FS : Fun K "_law_same" "_law_same" sSame fS fdS) (GS : GOk P w K mg base 1 fS fdS ["actual", "due"] (spSame K)) (bS : Binds K fdS ["actual", "due"] []) (gS : mg "_law_same" = some (.ref fS))
    (FC : Fun K "_law_cost" "_law_cost" sLCost fC fdC) (GC : FnOk P w K mg base CX0 1 fC fdC ["parts", "overhead", "faults"] (spLCost K)) (bC : Binds K fdC ["parts", "overhead", "faults"] []) (gC : mg "_law_cost" = some (.ref fC))
    (FV : Fun K "_law_divisions" "_law_divisions" sDivs fV fdV) (GV : FnOk P w K mg base CX0 7 fV fdV ["work", "most"] (spDivs 6)) (bV : Binds K fdV ["work", "most"] []) (gV : mg "_law_divisions" = some (.ref fV))
    (FE : Fun K "even" "even" sEven fE fdE) (GE : FnOk P w K mg base CX0 1 fE fdE ["work", "count"] spEven) (bE : Binds K fdE ["work", "count"] []) (gE : mg "even" = some (.ref fE))
    (FB : Fun K "best" "best" sBest fB fdB) (GB : FnOk P w K mg base CX0 3 fB fdB ["work", "overhead", "faults"] spBest) (bB : Binds K fdB ["work", "overhead", "faults"] []) (gB : mg "best" = some (.ref fB))
    (FK : Fun K "best_costs" "best_costs" sBestCosts fK fdK) (GK : FnOk P w K mg base CX0 3 fK fdK ["work", "overhead", "most"] spBestCosts) (bK : Binds K fdK ["work", "overhead", "most"] []) (gK : mg "best_costs" = some (.ref fK))
    (FO : Fun K "cost" "cost" sCost fO fdO) (GO : FnOk P w K mg base CX0 1 fO fdO ["parts", "overhead", "faults"] (spCost K)) (bO : Binds K fdO ["parts", "overhead", "faults"] []) (gO : mg "cost" = some (.ref fO))
    (mR : mg "range" = none) (mLen : mg "len" = none) (mT : mg "tuple" = none) (mM : mg "min" = none) (mX : mg "max" = none) (mS : mg "sum" = none) (mI : mg "int" = none) (mSo : mg "sorted" = none) : GOk P w K mg base 8 f fd ["script"] (spLaw K) := by
  refine gok_of F scLaw (fun vs H Q E h => ?_) (fun cdv A outer s H vs Q E hg hr h => ?_)
  · obtain ⟨a, ns, rfl, _⟩ := h
    rfl
  · obtain ⟨a, ns, rfl, hS, hns, q⟩ := h
    have hr7 : Room 7 _ := hr.mono (by decide)
    have hr3 : Room 3 _ := hr.mono (by decide)
    have hr2 : Room 2 _ := hr.mono (by decide)
    have hr1 : Room 1 _ := hr.mono (by decide)
    refine ⟨_, (pss_cons (ps_set (i := 1) scLaw.nd rfl (.inl rfl) (pe_lst (pa_cons (pe_call GDi hr2 (by rfl) gDi FDi.kp bDi .nil pass0 (pa_cons (pv 0) (pa_cons pe_int (pa_cons pe_int pa_nil)))) (pa_cons pe_int pa_nil))))
      (pss_cons (ps_set (i := 2) scLaw.nd rfl (.inr rfl) (pe_call GD hr1 (by rfl) gD FD.kp bD .nil pass0 (pa_cons (pv 1) (pa_cons pe_int pa_nil))))
      (pss_cons (ps_set (i := 3) scLaw.nd rfl (.inr rfl) (pe_call GD hr1 (by rfl) gD FD.kp bD .nil pass0 (pa_cons (pv 1) (pa_cons pe_int pa_nil))))
      (pss_cons (ps_set (i := 4) scLaw.nd rfl (.inl rfl) (pe_op op_add pe_int (pe_call GD hr1 (by rfl) gD FD.kp bD .nil pass0 (pa_cons (pv 1) (pa_cons pe_int pa_nil)))))
      (pss_cons (ps_setLc (i := 6) (own := [("parts", 5)]) (g := gName 5) (tt := tYes) (te := tTup (tCons (tCall (spLCost K) [] E0 (tCons (tVar 5) (tCons (tVar 2) (tCons (tVar 3) tNil)))) (tCons (tCB (rLenSeq K) (tCons (tVar 5) tNil)) tNil))) rfl scLaw.nd rfl rfl (sw_true rfl rfl rfl rfl)
          (pi_list (pe_call GV hr7 (by rfl) gV FV.kp bV .nil pass0 (pa_cons (pv 4) (pa_cons pe_int pa_nil))))
          (blkOk_by (N := NLaw) (sc := defScope sLaw) (by decide +kernel)) (fun _ _ _ _ _ => pg_name (i := 5) scLaw.nd rfl (.inl rfl)) (fun _ _ _ _ _ => pts_nil)
          (fun _ _ _ _ _ => pe_tup (pa_cons (pe_call GC hr1 (by rfl) gC FC.kp bC .nil pass0 (pa_cons (pv 5) (pa_cons (pv 2) (pa_cons (pv 3) pa_nil)))) (pa_cons (pe_callB (lenSeq (K := K) rfl) (by rfl) mLen PySem.boot_len (pa_cons (pv 5) pa_nil)) pa_nil))))
      (pss_cons (ps_asg (pe_callB (cr_minP rfl hr.units) (by rfl) mM (by decide +kernel) (pa_cons (pv 6) pa_nil)) (pg_tup rfl (pgs_cons (pg_name (i := 7) scLaw.nd rfl (.inl rfl)) (pgs_cons (pg_name (i := 8) scLaw.nd rfl (.inl rfl)) pgs_nil))))
      (pss_cons (ps_set (i := 9) scLaw.nd rfl (.inl rfl) (pe_call GB hr3 (by rfl) gB FB.kp bB .nil pass0 (pa_cons (pv 4) (pa_cons (pv 2) (pa_cons (pv 3) pa_nil)))))
      (pss_cons (ps_if (pt_not (pt_val (pe_callG GS hg hr1 (by rfl) gS FS.kp bS (pa_cons (pv 9) (pa_cons (pe_tup (pa_cons (pv 8) (pa_cons (pv 7) (pa_cons
          (pe_tupleOf (by rfl) mT (pe_lc (own := [("part", 16)]) (g := gName 16) (tt := tYes) (te := tOp (rI0 fun i j => .int (i + j)) (tVar 16) (tVar 2)) rfl scLaw.nd
            (pi_tup (pe_call GE hr1 (by rfl) gE FE.kp bE .nil pass0 (pa_cons (pv 4) (pa_cons (pv 8) pa_nil))))
            (blkOk_by (N := NLaw) (sc := defScope sLaw) (by decide +kernel)) (fun _ _ _ _ _ => pg_name (i := 16) scLaw.nd rfl (.inl rfl)) (fun _ _ _ _ _ => pts_nil) (fun _ _ _ _ _ => pe_op op_add (pv 16) (pv 2)))) pa_nil)))) pa_nil))))) (pss_one (ps_ret pe_bl)) pss_nil)
      (pss_cons (ps_set (i := 10) scLaw.nd rfl (.inr rfl) (pe_op op_add pe_int (pe_call GD hr1 (by rfl) gD FD.kp bD .nil pass0 (pa_cons (pv 1) (pa_cons pe_int pa_nil)))))
      (pss_cons (ps_set (i := 11) scLaw.nd rfl (.inr rfl) (pe_op op_add (pe_op op_mul (pe_call GD hr1 (by rfl) gD FD.kp bD .nil pass0 (pa_cons (pv 1) (pa_cons pe_int pa_nil)))
          (pe_callTy call_int1 (by rfl) mI (by decide +kernel) (pa_cons (pe_cmpR op_eq (pe_call GD hr1 (by rfl) gD FD.kp bD .nil pass0 (pa_cons (pv 1) (pa_cons pe_int pa_nil))) pe_int (nomark _)) pa_nil))) (pe_call GD hr1 (by rfl) gD FD.kp bD .nil pass0 (pa_cons (pv 1) (pa_cons pe_int pa_nil)))))
      (pss_cons (ps_set (i := 12) scLaw.nd rfl (.inl rfl) (pe_op op_add pe_int (pe_call GD hr1 (by rfl) gD FD.kp bD .nil pass0 (pa_cons (pv 1) (pa_cons (pe_callB (cr_min2 rfl) (by rfl) mM (by decide +kernel) (pa_cons (pv 10) (pa_cons pe_int pa_nil))) pa_nil)))))
      (pss_cons (ps_set (i := 5) scLaw.nd rfl (.inl rfl) (pe_call GE hr1 (by rfl) gE FE.kp bE .nil pass0 (pa_cons (pv 10) (pa_cons (pv 12) pa_nil))))
      (pss_cons (ps_if (PW.pt (pw_or (pt_cmpR op_ne (pe_callB (cr_sumT rfl) (by rfl) mS (by decide +kernel) (pa_cons (pv 5) pa_nil)) (pv 10) (nomark _))
          (pw_or (pt_cmpR op_ne (pe_callB call_len_seq (by rfl) mLen PySem.boot_len (pa_cons (pv 5) pa_nil)) (pv 12) (nomark _))
          (pw_or (pt_cmpR op_gt (pe_op op_sub (pe_callB (cr_maxT rfl) (by rfl) mX (by decide +kernel) (pa_cons (pv 5) pa_nil)) (pe_callB (cr_minT rfl) (by rfl) mM (by decide +kernel) (pa_cons (pv 5) pa_nil))) pe_int (nomark _))
          (pw_or1 (pt_cmpR (op_neD hr.units) (pv 5) (pe_tupleOf (by rfl) mT (pe_callBK (cr_sortedRevT (b := true)) (by rfl) mSo (by decide +kernel) (pa_cons (pv 5) pa_nil) (pk_cons pe_bl pk_nil))) (nomark _))))))) (pss_one (ps_ret pe_bl)) pss_nil)
      (pss_cons (ps_set (i := 13) scLaw.nd rfl (.inr rfl) (pe_call GD hr1 (by rfl) gD FD.kp bD .nil pass0 (pa_cons (pv 1) (pa_cons pe_int pa_nil))))
      (pss_cons (ps_if (pt_not (pt_val (pe_callG GS hg hr1 (by rfl) gS FS.kp bS (pa_cons (pe_call GO hr1 (by rfl) gO FO.kp bO .nil pass0 (pa_cons (pv 5) (pa_cons (pv 11) (pa_cons (pv 13) pa_nil)))) (pa_cons (pe_call GC hr1 (by rfl) gC FC.kp bC .nil pass0 (pa_cons (pv 5) (pa_cons (pv 11) (pa_cons (pv 13) pa_nil)))) pa_nil))))) (pss_one (ps_ret pe_bl)) pss_nil)
      (pss_cons (ps_setLc (i := 14) (own := [("k", 17)]) (g := gName 17) (tt := tYes) (te := tTup (tCons (tCall (spLCost K) [] E0 (tCons (tCall spEven [] E0 (tCons (tVar 10) (tCons (tVar 17) tNil))) (tCons (tVar 11) (tCons (tVar 13) tNil)))) (tCons (tVar 17) tNil))) rfl scLaw.nd rfl rfl (sw_true rfl rfl rfl rfl)
          (pi_range2 (by rfl) mR (pa_cons pe_int (pa_cons (pe_op op_add (pe_callB (cr_min2 rfl) (by rfl) mM (by decide +kernel) (pa_cons (pv 10) (pa_cons pe_int pa_nil))) pe_int) pa_nil)))
          (blkOk_by (N := NLaw) (sc := defScope sLaw) (by decide +kernel)) (fun _ _ _ _ _ => pg_name (i := 17) scLaw.nd rfl (.inl rfl)) (fun _ _ _ _ _ => pts_nil)
          (fun _ _ _ _ _ => pe_tup (pa_cons (pe_call GC hr1 (by rfl) gC FC.kp bC .nil pass0 (pa_cons (pe_call GE hr1 (by rfl) gE FE.kp bE .nil pass0 (pa_cons (pv 10) (pa_cons (pv 17) pa_nil))) (pa_cons (pv 11) (pa_cons (pv 13) pa_nil)))) (pa_cons (pv 17) pa_nil))))
      (pss_cons (ps_if (pt_not (pt_val (pe_callG GS hg hr1 (by rfl) gS FS.kp bS (pa_cons (pe_slice sl_tupA (pe_call GB hr3 (by rfl) gB FB.kp bB .nil pass0 (pa_cons (pv 10) (pa_cons (pv 11) (pa_cons (pv 13) pa_nil)))) po_none (po_some pe_int))
          (pa_cons (pe_tup (pa_cons (pe_ix ix_tup (pe_callB (cr_minP rfl hr.units) (by rfl) mM (by decide +kernel) (pa_cons (pv 14) pa_nil)) pe_int (fun _ _ => rfl)) (pa_cons (pe_ix ix_tup (pe_callB (cr_minP rfl hr.units) (by rfl) mM (by decide +kernel) (pa_cons (pv 14) pa_nil)) pe_int (fun _ _ => rfl)) pa_nil))) pa_nil))))) (pss_one (ps_ret pe_bl)) pss_nil)
      (pss_cons (ps_set (i := 15) scLaw.nd rfl (.inl rfl) (pe_tupleOf (by rfl) mT (pe_lc (own := [("k", 17)]) (g := gName 17) (tt := tYes) (te := tSl (rSlA K) (tCall spBest [] E0 (tCons (tVar 10) (tCons (tVar 11) (tCons (tVar 17) tNil)))) tNoPart (tPart (tC (.int 2)))) rfl scLaw.nd
          (pi_range1 (by rfl) mR (pa_cons (pe_op op_add (pv 13) pe_int) pa_nil))
          (blkOk_by (N := NLaw) (sc := defScope sLaw) (by decide +kernel)) (fun _ _ _ _ _ => pg_name (i := 17) scLaw.nd rfl (.inl rfl)) (fun _ _ _ _ _ => pts_nil)
          (fun _ _ _ _ _ => pe_slice (slT (K := K) rfl) (pe_call GB hr3 (by rfl) gB FB.kp bB .nil pass0 (pa_cons (pv 10) (pa_cons (pv 11) (pa_cons (pv 17) pa_nil)))) po_none (po_some pe_int)))))
      (pss_one (ps_ret (pe_callG GS hg hr1 (by rfl) gS FS.kp bS (pa_cons (pe_call GK hr3 (by rfl) gK FK.kp bK .nil pass0 (pa_cons (pv 10) (pa_cons (pv 11) (pa_cons (pv 13) pa_nil)))) (pa_cons (pv 15) pa_nil))))))))))))))))))))))), ?_⟩
    -- the box
    refine ⟨.ref a, rfl, a, ns, 40, rfl, by decide, hS, fun H0 D ds s0 nD hD => ?_⟩
    refine ⟨by show 2 ≤ sizeLine; decide, fun b nb => ?_⟩
    have hbx : BoxAt (upd H0 b (.lst [.ref D, .int ((0 : Nat) : Int)])) b D ds 0 := ⟨upd_same, by rw [upd_ne (ne_of_none hD nb)]; exact hD⟩
    -- overhead, faults, work
    refine ⟨.ref b, rfl, b, D, ds, 0, 7, rfl, hbx, by decide, fun o o0 o7 => ?_⟩
    refine ⟨.ref b, rfl, b, D, ds, 1, 6, rfl, hbx.bump, by decide, fun f f0 f6 => ?_⟩
    refine ⟨.ref b, rfl, b, D, ds, 2, 14, rfl, hbx.bump.bump, by decide, fun e e0 e14 => ⟨1, e, rfl, rfl, ?_⟩⟩
    have bx1 := hbx.bump.bump.bump
    obtain ⟨W, hW⟩ : ∃ W : Nat, (W : Int) = 1 + e := ⟨(1 + e).toNat, by omega⟩
    have w1 : 1 ≤ W := by omega
    have w14 : W ≤ 14 := by omega
    have ho : 0 ≤ o ∧ o ≤ 2000 := by omega
    have hf : 0 ≤ f ∧ f ≤ 20 := by omega
    dsimp only
    rw [← hW, st3]
    dsimp only [gName, tSeq, List.set]
    -- rows
    refine ⟨_, rfl, W, 6, rfl, w1, w14, by decide, by decide, fun H2 l rs s2 nl hl hDv => ?_⟩
    rw [show (6 : Nat) - 1 = 5 from rfl] at hDv
    obtain ⟨L, hLd⟩ : ∃ L, L = divs 5 W := ⟨_, rfl⟩
    rw [← hLd] at hDv
    have Lpos : 0 < L.length := by rw [hLd]; exact Nat.zero_lt_succ _
    have Llen : L.length ≤ 8192 := by
      rw [hLd]
      refine Nat.le_trans (divs_len 5 W w1) ?_
      have : 2 ^ (W - 1) ≤ 2 ^ 13 := Nat.pow_le_pow_right (by decide) (by omega)
      exact this
    have Ldiv : ∀ p ∈ L, IsDiv 5 W p := by rw [hLd]; exact divs_are 5 W w1
    obtain ⟨kf, hkf⟩ : ∃ kf : Nat → Int × Int, kf = fun j => (cst (L.getD j []) o f, ((L.getD j []).length : Int)) := ⟨_, rfl⟩
    have bx2 := bx1.same s2
    refine ⟨l, rfl, ⟨_, SqL.of hl⟩, fun R nR => ?_⟩
    refine lc_it walk_list (fun i H' => Same H2 H' ∧ ∃ qs : List Addr, H' R = some (.lst (qs.map V.ref)) ∧ qs.length = i ∧ ∀ j r, qs[j]? = some r → H' r = some (.tup [.int (kf j).1, .int (kf j).2]))
      ⟨same_new nR, [], upd_same, rfl, fun j r e => nomatch e⟩ (fun i H' _ h => SqL.of (h.1 _ _ hl)) ?_ ?_
    · rintro i v H4 H3 hi ⟨s3, qs, hR, hql, hqs⟩ ⟨rfl, hv⟩
      rw [List.length_map] at hi
      obtain ⟨r, hr0⟩ : ∃ r, rs[i]? = some r := ⟨_, List.getElem?_eq_getElem hi⟩
      have hv' : v = .ref r := by
        rw [List.getElem?_map, hr0] at hv
        cases hv; rfl
      subst hv'
      obtain ⟨p, hp1, hp2⟩ := hDv.2 i r hr0
      have dp := Ldiv p (List.mem_of_getElem? hp1)
      have hp3 := s3 _ _ hp2
      refine ⟨rfl, ?_⟩
      dsimp only [tYes]
      rw [if_pos rfl]
      have pl := dp.len
      refine ⟨_, rfl, _, rfl, _, rfl, r, p, o, f, rfl, hp3, dp.ne, by omega, fun y hy => by have := dp.pos y hy; omega, ho, hf, fun H5 s5 => ?_⟩
      refine ⟨_, rfl, r, _, rfl, .inr (SqT.of (s5 _ _ hp3)), by show 2 ≤ sizeLine; decide, fun Z nZ => ?_⟩
      have ek : kf i = (cst p o f, (p.length : Int)) := by
        rw [hkf]
        dsimp only
        rw [List.getD_eq_getElem?_getD, hp1]
        rfl
      have sZ := same_new (o := .tup [.int (cst p o f), .int ((iv p).length : Int)]) nZ
      have s35 := s5.trans sZ
      have hR2 := s35 _ _ hR
      have nRZ : R ≠ Z := ne_of_none (s5 _ _ hR) nZ
      have hrl := hDv.1
      refine ⟨_, hR2, ?_, same_upd' (s3.trans s35) nR, qs ++ [Z], ?_, ?_, fun j x e => ?_⟩
      · rw [List.length_map, hql]; exact wide_small (by omega)
      · rw [upd_same, List.map_append]; rfl
      · rw [List.length_append, hql]; rfl
      · by_cases z : j < i
        · rw [List.getElem?_append_left (by omega)] at e
          have e2 := s35 _ _ (hqs j x e)
          rw [upd_ne (ne_of e2 hR2 (by intro z; cases z))]
          exact e2
        · have hj := (List.getElem?_eq_some_iff.mp e).1
          rw [List.length_append, List.length_singleton] at hj
          obtain rfl : j = i := by omega
          rw [List.getElem?_append_right (by omega), hql, Nat.sub_self] at e
          cases e
          rw [upd_ne nRZ.symm, upd_same, ek, List.length_map]
    rintro H3 ⟨s3, qs, hR, hql, hqs⟩
    rw [List.length_map] at hql
    have hqL : qs.length = L.length := by rw [hql, hDv.1]
    -- least, count
    refine ⟨_, rfl, R, qs, kf, rfl, SqL.of hR, by omega, hqs, fun i r hi hle => ?_⟩
    have hiL : i < L.length := by have := (List.getElem?_eq_some_iff.mp hi).1; omega
    obtain ⟨p, hp⟩ : ∃ p, p = L[i] := ⟨_, rfl⟩
    have hpm : p ∈ L := by rw [hp]; exact List.getElem_mem hiL
    have kfi : kf i = (cst p o f, (p.length : Int)) := by
      rw [hkf, hp]
      dsimp only
      rw [List.getD_eq_getElem?_getD, List.getElem?_eq_getElem hiL]
      rfl
    obtain ⟨hB, hcp⟩ := least_even hf.1 w1 (p := p) (by rw [← hLd]; exact hpm) (fun q2 hq2 => by
      rw [← hLd] at hq2
      obtain ⟨j, hj, rfl⟩ := List.getElem_of_mem hq2
      have := hle j (by omega)
      rw [kfi] at this
      rw [hkf] at this
      dsimp only at this
      rw [List.getD_eq_getElem?_getD, List.getElem?_eq_getElem hj] at this
      exact this)
    have hbc := bc_eq hB
    have hr3 := hqs i r hi
    rw [kfi, hcp] at hr3
    obtain ⟨c, hc⟩ : ∃ c, c = p.length := ⟨_, rfl⟩
    rw [← hc] at hr3 hB hbc
    have c1 := hB.lo
    have c6 : c ≤ 6 := by have := hB.hi; omega
    refine ⟨r, _, rfl, SqT.of hr3, rfl, _, _, rfl, _, _, rfl, rfl, ?_⟩
    have bx3 := bx2.same s3
    -- told
    refine ⟨_, rfl, _, rfl, _, rfl, W, o, f, rfl, w1, by omega, ho, hf, fun _ H4 t pl s4 nt ht hpl => ?_⟩
    rw [hbc] at ht
    have bx4 := bx3.same s4
    -- the same
    refine ⟨_, rfl, _, rfl, _, rfl, _, rfl, _, rfl, W, c, rfl, c1, by omega, by omega, fun H5 u s5 hu => ?_⟩
    refine ⟨u, rfl, ⟨_, SqT.of hu⟩, fun M nM => ?_⟩
    have eu : (iv (evenL W c)).length = c := by rw [List.length_map, evenL_len' c1]
    refine lc_it walk_tup (fun i H' => Same H5 H' ∧ H' M = some (.lst (iv (((evenL W c).take i).map fun x => x + o)))) ⟨same_new nM, upd_same⟩ (fun i H' _ h => SqT.of (h.1 _ _ hu)) ?_ ?_
    · rintro i v H7 H6 hi ⟨s6, hM⟩ ⟨rfl, hv⟩
      rw [eu] at hi
      have hi2 : i < (evenL W c).length := by rw [evenL_len' c1]; exact hi
      have hv' : v = .int ((evenL W c)[i]) := by
        rw [List.getElem?_map, List.getElem?_eq_getElem hi2] at hv
        cases hv; rfl
      subst hv'
      refine ⟨rfl, ?_⟩
      dsimp only [tYes]
      rw [if_pos rfl]
      refine ⟨_, rfl, _, rfl, _, _, rfl, rfl, _, hM, ?_, same_upd' s6 nM, ?_⟩
      · rw [List.length_map, List.length_map, List.length_take]; exact small1000 (by omega)
      · rw [upd_same, List.take_succ_eq_append_getElem hi2, List.map_append, ← iv_snoc]
        rfl
    rintro H6 ⟨s6, hM⟩
    rw [eu, List.take_of_length_le (by rw [evenL_len' c1]; exact Nat.le_refl _)] at hM
    have hln : lens W o f = (evenL W c).map fun x => x + o := by unfold lens; rw [hbc]
    rw [← hln] at hM
    refine .inl ⟨M, _, rfl, SqL.of hM, fun y ny => ?_⟩
    have sy := same_new (o := .tup (iv (lens W o f))) ny
    refine ⟨by show 3 ≤ sizeLine; decide, fun z nz => ?_⟩
    have sz := same_new (o := .tup [.int (c : Nat), .int (cst (evenL W c) o f), .ref y]) nz
    have s58 := s5.trans (s6.trans (sy.trans sz))
    have cb := cst_bd (W := W) (c := c) (o := o) (f := f) (by omega) c1 c6 ho hf
    have lsm : ∀ x ∈ lens W o f, x.natAbs < 10 ^ 12 := by
      intro x hx
      rw [hln] at hx
      obtain ⟨x0, hx0, rfl⟩ := List.mem_map.mp hx
      have a1 := evenL_nonneg hx0
      have a2 := mxL_ge x0 hx0
      have a3 : mxL (evenL W c) ≤ (W : Int) := by
        refine mx_even c1 ?_
        have : (1 : Int) * W ≤ c * W := Int.mul_le_mul_of_nonneg_right (by omega) (by omega)
        omega
      exact nat_small6 (by omega) (by omega)
    refine ⟨.ref t, .ref z, .tuple [.int (c : Nat), .int (cst (evenL W c) o f), .tuple ((lens W o f).map PyData.int)], rfl, ?_, ?_, ?_, true, rfl, ?_⟩
    · exact .tup (SqT.of (s58 _ _ ht)) (.cons (.int _) (.cons (.int _) (.cons (dp_tup (s58 _ _ hpl)) .nil)))
    · exact .tup (SqT.of upd_same) (.cons (.int _) (.cons (.int _) (.cons (dp_tup (sz _ _ upd_same)) .nil)))
    · exact small_best (nat_small6 (by omega) (by omega)) (nat_small6 cb.1 cb.2) lsm (by rw [hln, List.length_map, evenL_len' c1]; omega)
    dsimp only
    rw [if_neg (show ¬ ((!true) = true) by decide)]
    have bx8 := bx4.same s58
    clear sz sy s58 hM hu ht hpl hR hDv
    -- great, far, many
    dsimp only [gName, tSeq, List.set]
    refine ⟨.ref b, rfl, b, D, ds, 3, 1000, rfl, bx8, by decide, fun e2 g0 g1 => ⟨1, e2, rfl, rfl, ?_⟩⟩
    obtain ⟨G, hG⟩ : ∃ G : Nat, (G : Int) = 1 + e2 := ⟨(1 + e2).toNat, by omega⟩
    dsimp only
    rw [← hG]
    have G1 : 1 ≤ G := by omega
    have G2 : G ≤ 1000 := by omega
    refine ⟨.ref b, rfl, b, D, ds, 4, 990, rfl, bx8.bump, by decide, fun x1 x10 x11 => ?_⟩
    refine ⟨.ref b, rfl, b, D, ds, 5, 2, rfl, bx8.bump.bump, by decide, fun x2 x20 x21 => ⟨rfl, .inr ⟨_, rfl, ?_⟩⟩⟩
    refine ⟨_, _, rfl, rfl, .inl ⟨by omega, by omega⟩, ?_⟩
    refine ⟨.ref b, rfl, b, D, ds, 6, 9, rfl, bx8.bump.bump.bump, by decide, fun x3 x30 x31 => ⟨_, _, rfl, rfl, ?_⟩⟩
    obtain ⟨far, hfar⟩ : ∃ far : Int, far = x1 * (if decide (V.int x2 = V.int 0) = true then 1 else 0) + x3 := ⟨_, rfl⟩
    dsimp only
    rw [← hfar]
    have hfb : 0 ≤ far ∧ far ≤ 2000 := by
      rw [hfar]
      split <;> omega
    clear hfar
    refine ⟨.ref b, rfl, .int G, rfl, _, _, rfl, b, D, ds, 7, _, rfl, bx8.bump.bump.bump.bump, by omega, fun x4 x40 x41 => ⟨1, x4, rfl, rfl, ?_⟩⟩
    obtain ⟨M, hMm⟩ : ∃ M : Nat, (M : Int) = 1 + x4 := ⟨(1 + x4).toNat, by omega⟩
    dsimp only
    rw [← hMm]
    have M1 : 1 ≤ M := by omega
    have M6 : M ≤ 6 := by omega
    have MG : M ≤ G := by omega
    have bx9 := bx8.bump.bump.bump.bump.bump
    -- parts
    refine ⟨.int G, rfl, .int M, rfl, G, M, rfl, M1, by omega, G2, fun H9 pt s9 hpt => ?_⟩
    have bx10 := bx9.same s9
    have eM : (evenL G M).length = M := evenL_len' M1
    have eS : (evenL G M).sum = G := evenL_sum M1
    refine ⟨.ref pt, rfl, pt, _, rfl, SqT.of hpt, .int G, rfl, rfl, _, rfl, ?_⟩
    rw [eS]
    dsimp only
    rw [if_neg (show ¬ ((!decide (V.int (G : Int) = V.int (G : Int))) = true) by simp)]
    refine ⟨.ref pt, rfl, pt, _, rfl, .inr (SqT.of hpt), .int M, rfl, rfl, _, rfl, ?_⟩
    rw [List.length_map, eM]
    dsimp only
    rw [if_neg (show ¬ ((!decide (V.int (M : Int) = V.int (M : Int))) = true) by simp)]
    refine ⟨.ref pt, rfl, pt, _, rfl, SqT.of hpt, by omega, fun m1 hm1 _ => ?_⟩
    refine ⟨.ref pt, rfl, pt, _, rfl, SqT.of hpt, by omega, fun m2 hm2 _ => ?_⟩
    refine ⟨_, _, rfl, rfl, _, _, rfl, rfl, _, rfl, ?_⟩
    have gap := even_gap hm1 hm2
    dsimp only
    rw [if_neg (fun z => gap (of_decide_eq_true z))]
    refine ⟨.ref pt, rfl, .ref pt, rfl, pt, _, rfl, rfl, SqT.of hpt, fun ns2 so hpm2 hord nso => ?_⟩
    have ens := even_sorted hpm2 hord
    subst ens
    have sso := same_new (o := .lst (iv (evenL G M))) nso
    refine .inl ⟨so, _, rfl, SqL.of upd_same, fun st nst => ?_⟩
    have sst := same_new (o := .tup (iv (evenL G M))) nst
    have hptS := sst _ _ (sso _ _ hpt)
    refine ⟨_, _, dp_tup hptS, dp_tup upd_same, shaped_ints _, shaped_ints _, _, rfl, ?_⟩
    rw [eqv_ints]
    dsimp only
    rw [if_neg (show ¬ ((!true) = true) by decide)]
    -- hits
    dsimp only [gName, tSeq, List.set]
    have s10 := sso.trans sst
    have bx11 := bx10.same s10
    refine ⟨.ref b, rfl, b, D, ds, _, 21, rfl, bx11, by decide, fun x5 x50 x51 => ?_⟩
    obtain ⟨hits, hhits⟩ : ∃ hits : Nat, (hits : Int) = x5 := ⟨x5.toNat, by omega⟩
    subst hhits
    have hh : (0 : Int) ≤ hits ∧ (hits : Int) ≤ 20 := by omega
    have hp12 := bx11.tsb _ _ hptS
    have bx12 := bx11.bump
    clear sso sst s10 bx11 bx10 bx9 bx8
    -- what the parts cost
    refine ⟨.ref pt, rfl, .int far, rfl, .int hits, rfl, pt, evenL G M, far, hits, rfl, hp12, evenL_ne M1, by omega, fun y hy => evenL_nonneg hy, hfb, hh, ?_⟩
    refine ⟨.ref pt, rfl, .int far, rfl, .int hits, rfl, pt, evenL G M, far, hits, rfl, hp12, evenL_ne M1, by omega, fun y hy => evenL_nonneg hy, hfb, hh, fun H13 s13 => ?_⟩
    have cb2 := cst_bd (W := G) (c := M) (o := far) (f := hits) G2 M1 M6 hfb hh
    refine ⟨_, _, .int (cst (evenL G M) far hits), rfl, .int _, .int _, small_int (nat_small6 cb2.1 cb2.2), true, rfl, ?_⟩
    dsimp only
    rw [if_neg (show ¬ ((!true) = true) by decide)]
    -- found
    dsimp only [gName, tSeq, List.set]
    obtain ⟨m, hm⟩ : ∃ m : Nat, m = min G 6 := ⟨_, rfl⟩
    have em : min (G : Int) (6 : Int) = (m : Int) := by omega
    refine ⟨.int G, rfl, _, _, rfl, _, _, rfl, rfl, 1, _, rfl, ⟨by omega, by omega, by omega, by omega⟩, fun U nU => ?_⟩
    rw [show (min (G : Int) (6 : Int) + 1 - 1).toNat = m by omega]
    refine lc_range (fun i H' => Same H13 H' ∧ ∃ rs : List Addr, H' U = some (.lst (rs.map V.ref)) ∧ rs.length = i ∧ ∀ j r, rs[j]? = some r → H' r = some (.tup [.int (cst (evenL G (j + 1)) far hits), .int ((j + 1 : Nat) : Int)]))
      ⟨same_new nU, [], upd_same, rfl, fun j r e => nomatch e⟩ ?_ ?_
    · rintro i H1 hi ⟨s1, rs, hD, hrl, hrs⟩
      refine ⟨rfl, ?_⟩
      dsimp only [tYes]
      rw [if_pos rfl]
      have ei : (1 : Int) + (i : Int) = ((i + 1 : Nat) : Int) := by omega
      rw [ei]
      have i1 : 1 ≤ i + 1 := by omega
      refine ⟨_, rfl, _, rfl, G, i + 1, rfl, i1, by omega, G2, fun H2 p s2 hp => ?_⟩
      refine ⟨_, rfl, _, rfl, p, evenL G (i + 1), far, hits, rfl, hp, evenL_ne i1, by rw [evenL_len' i1]; omega, fun y hy => evenL_nonneg hy, hfb, hh, fun H3 s3 => ?_⟩
      refine ⟨_, rfl, by show 2 ≤ sizeLine; decide, fun Z nZ => ?_⟩
      have sZ := same_new (o := .tup [.int (cst (evenL G (i + 1)) far hits), .int ((i + 1 : Nat) : Int)]) nZ
      have s12 := s2.trans (s3.trans sZ)
      have hD2 := s12 _ _ hD
      have nDZ : U ≠ Z := ne_of_none (s3 _ _ (s2 _ _ hD)) nZ
      refine ⟨_, hD2, ?_, same_upd' (s1.trans s12) nU, rs ++ [Z], ?_, ?_, fun j r e => ?_⟩
      · rw [List.length_map, hrl]; exact small1000 (by omega)
      · rw [upd_same, List.map_append]; rfl
      · rw [List.length_append, hrl]; rfl
      · by_cases z : j < i
        · rw [List.getElem?_append_left (by omega)] at e
          have e2 := s12 _ _ (hrs j r e)
          rw [upd_ne (ne_of e2 hD2 (by intro z; cases z))]
          exact e2
        · have hj := (List.getElem?_eq_some_iff.mp e).1
          rw [List.length_append, List.length_singleton] at hj
          obtain rfl : j = i := by omega
          rw [List.getElem?_append_right (by omega), hrl, Nat.sub_self] at e
          cases e
          rw [upd_ne nDZ.symm, upd_same]
    rintro H14 ⟨s14, fs, hU, hfl, hfs⟩
    -- best(great, far, hits)[:2]
    dsimp only [gName, tSeq, List.set]
    refine ⟨.int G, rfl, .int far, rfl, .int hits, rfl, G, far, hits, rfl, G1, G2, hfb, hh, fun hBG H15 t2 p2 s15 nt2 ht2 hp2 => ?_⟩
    refine ⟨2, rfl, ?_⟩
    dsimp only [tNoPart]
    refine sl_any ht2 fun H16 t3 s16 ht3 => ?_
    rw [cut2] at ht3
    have s156 := s15.trans s16
    have hU6 := s156 _ _ hU
    have minc : ∀ (i : Nat) (r : Addr), fs[i]? = some r → (∀ j, j < fs.length → lexLe (cst (evenL G (i + 1)) far hits, ((i + 1 : Nat) : Int)) (cst (evenL G (j + 1)) far hits, ((j + 1 : Nat) : Int))) → bc G far hits = i + 1 := fun i r hi hle => by
      have him : i < m := by have := (List.getElem?_eq_some_iff.mp hi).1; omega
      refine bc_eq ⟨by omega, by omega, fun d d1 d2 => ?_⟩
      have := hle (d - 1) (by omega)
      rwa [show d - 1 + 1 = d by omega] at this
    have hfs6 : ∀ j r, fs[j]? = some r → H16 r = some (.tup [.int (cst (evenL G (j + 1)) far hits), .int ((j + 1 : Nat) : Int)]) := fun j r e => s156 _ _ (hfs j r e)
    refine ⟨_, rfl, U, fs, fun j => (cst (evenL G (j + 1)) far hits, ((j + 1 : Nat) : Int)), rfl, SqL.of hU6, by omega, hfs6, fun i r hi hle => ?_⟩
    have b1 := minc i r hi hle
    refine ⟨r, _, 1, _, rfl, rfl, SqT.of (hfs6 i r hi), rfl, ?_⟩
    refine ⟨_, rfl, U, fs, fun j => (cst (evenL G (j + 1)) far hits, ((j + 1 : Nat) : Int)), rfl, SqL.of hU6, by omega, hfs6, fun i2 r2 hi2 hle2 => ?_⟩
    have b2 := minc i2 r2 hi2 hle2
    refine ⟨r2, _, 0, _, rfl, rfl, SqT.of (hfs6 i2 r2 hi2), rfl, by show 2 ≤ sizeLine; decide, fun z2 nz2 => ?_⟩
    obtain rfl : i2 = i := by omega
    rw [b1] at ht3
    have sz2 := same_new (o := .tup [.int ((i2 + 1 : Nat) : Int), .int (cst (evenL G (i2 + 1)) far hits)]) nz2
    have i6 : i2 + 1 ≤ 6 := by have := (List.getElem?_eq_some_iff.mp hi2).1; omega
    have cb3 := cst_bd (W := G) (c := i2 + 1) (o := far) (f := hits) G2 (by omega) i6 hfb hh
    refine ⟨_, _, .tuple [.int ((i2 + 1 : Nat) : Int), .int (cst (evenL G (i2 + 1)) far hits)], rfl, .tup (SqT.of (sz2 _ _ ht3)) (.cons (.int _) (.cons (.int _) .nil)), .tup (SqT.of upd_same) (.cons (.int _) (.cons (.int _) .nil)), small_pair (nat_small6 (by omega) (by omega)) (nat_small6 cb3.1 cb3.2), true, rfl, ?_⟩
    rw [if_neg (show ¬ ((!true) = true) by decide)]
    -- the table
    obtain ⟨HT, hHT⟩ : ∃ HT, HT = upd H16 z2 (.tup [.int ((i2 + 1 : Nat) : Int), .int (cst (evenL G (i2 + 1)) far hits)]) := ⟨_, rfl⟩
    refine ⟨.int hits, rfl, _, _, rfl, rfl, _, rfl, by omega, by omega, fun B nB => ?_⟩
    rw [show ((hits : Int) + 1).toNat = hits + 1 by omega]
    refine lc_range (fun i H' => Same HT H' ∧ ∃ rs : List Addr, H' B = some (.lst (rs.map V.ref)) ∧ rs.length = i ∧ ∀ (j : Nat) (r : Addr), rs[j]? = some r → BestC G far (j : Nat) (bc G far (j : Nat)) ∧ H' r = some (.tup [.int (bc G far (j : Nat) : Nat), .int (cst (evenL G (bc G far (j : Nat))) far (j : Nat))]))
      ⟨by rw [hHT]; exact same_new nB, [], upd_same, rfl, fun j r e => nomatch e⟩ ?_ ?_
    · rintro i H1 hi ⟨s1, rs, hD, hrl, hrs⟩
      refine ⟨rfl, ?_⟩
      dsimp only [tYes]
      rw [if_pos rfl]
      rw [show (0 : Int) + (i : Int) = ((i : Nat) : Int) by omega]
      refine ⟨_, rfl, _, rfl, _, rfl, G, far, (i : Nat), rfl, G1, G2, hfb, ⟨by omega, by omega⟩, fun hBi H2 t4 p4 s2 nt4 ht4 hp4 => ?_⟩
      refine ⟨2, rfl, ?_⟩
      dsimp only [tNoPart]
      refine sl_any ht4 fun H3 Z s3 hZ => ?_
      rw [cut2] at hZ
      have s12 := s2.trans s3
      have hD2 := s12 _ _ hD
      have nDZ : B ≠ Z := ne_of hD2 hZ (by intro z; cases z)
      refine ⟨_, hD2, ?_, same_upd' (s1.trans s12) (by rw [hHT]; exact nB), rs ++ [Z], ?_, ?_, fun j r e => ?_⟩
      · rw [List.length_map, hrl]; exact small1000 (by omega)
      · rw [upd_same, List.map_append]; rfl
      · rw [List.length_append, hrl]; rfl
      · by_cases z : j < i
        · rw [List.getElem?_append_left (by omega)] at e
          obtain ⟨e1, e2⟩ := hrs j r e
          have e2 := s12 _ _ e2
          refine ⟨e1, ?_⟩
          rw [upd_ne (ne_of e2 hD2 (by intro z; cases z))]
          exact e2
        · have hj := (List.getElem?_eq_some_iff.mp e).1
          rw [List.length_append, List.length_singleton] at hj
          obtain rfl : j = i := by omega
          rw [List.getElem?_append_right (by omega), hrl, Nat.sub_self] at e
          cases e
          refine ⟨hBi, ?_⟩
          rw [upd_ne nDZ.symm]
          exact hZ
    rintro H17 ⟨s17, ts, hB2, htl, hts⟩
    refine .inl ⟨B, _, rfl, SqL.of hB2, fun tt ntt => ?_⟩
    have stt := same_new (o := .tup (ts.map V.ref)) ntt
    -- best_costs
    refine ⟨.int G, rfl, .int far, rfl, .int hits, rfl, G, far, hits, rfl, G1, G2, hfb, by omega, fun H18 ct cs s18 hct hcl hcs => ?_⟩
    obtain ⟨kf2, hk2⟩ : ∃ kf2 : Nat → Int × Int, kf2 = fun j => (((bc G far (j : Nat) : Nat) : Int), cst (evenL G (bc G far (j : Nat))) far (j : Nat)) := ⟨_, rfl⟩
    have d1 := dp_pairs (K := K) (H := H18) cs kf2 fun j r e => by rw [hk2]; exact hcs j r e
    have d2 := dp_pairs (K := K) (H := H18) ts kf2 fun j r e => by rw [hk2]; exact s18 _ _ (stt _ _ (hts j r e).2)
    rw [hcl] at d1
    rw [htl] at d2
    have d3 := Dp.tup (SqT.of hct) d1
    have d4 := Dp.tup (SqT.of (s18 _ _ upd_same)) d2
    refine ⟨.ref tt, rfl, .ref ct, .ref tt, _, rfl, d3, d4, small_pairs (fun p hp => ?_) (by rw [List.length_map, List.length_range]; omega), q _⟩
    obtain ⟨j, hj, rfl⟩ := List.mem_map.mp hp
    have hj := List.mem_range.mp hj
    obtain ⟨r, hr0⟩ : ∃ r, ts[j]? = some r := ⟨_, List.getElem?_eq_getElem (by omega)⟩
    have hb := (hts j r hr0).1
    rw [hk2]
    dsimp only
    have l1 := hb.lo
    have l2 := hb.hi
    have cb4 := cst_bd (W := G) (c := bc G far (j : Nat)) (o := far) (f := (j : Nat)) G2 l1 (by omega) hfb ⟨by omega, by omega⟩
    exact ⟨nat_small6 (by omega) (by omega), nat_small6 cb4.1 cb4.2⟩
end
end Fd

set_option Elab.async false
set_option linter.all false
set_option maxRecDepth 100000
set_option maxHeartbeats 4000000
namespace Fd
open PySem PySem.Spec PyProof.Rows L2 RZ
/-! ### what the top has written -/
theorem all_mk {l : PySem.W.OpenLaw} {w : World} {K : PySem.W.Frag} {h : Heap} {mg : Str → Option Value} {fa : Addr} (X : K.In h) (G : h.Ns mainGlobals mg) (hfa : mg "law" = some (.ref fa))
    {f0 f1 f2 f3 f4 f5 f6 f7 f8 f9 f10 f11 : Addr} {od0 an0 od1 an1 od2 an2 od3 an3 od4 an4 od5 an5 od6 an6 od7 an7 od8 an8 od9 an9 od10 an10 od11 an11 : Option Addr} {sl0 sl1 sl2 sl3 sl4 sl5 sl6 sl7 sl8 sl9 sl10 sl11 : Array (Option Value)}
    {oc0 kV0 dc0 pm0 cd0 ct0 oc1 kV1 dc1 pm1 cd1 ct1 oc2 kV2 dc2 pm2 cd2 ct2 oc3 kV3 dc3 pm3 cd3 ct3 oc4 kV4 dc4 pm4 cd4 ct4 oc5 kV5 dc5 pm5 cd5 ct5 oc6 kV6 dc6 pm6 cd6 ct6 oc7 kV7 dc7 pm7 cd7 ct7 oc8 kV8 dc8 pm8 cd8 ct8 oc9 kV9 dc9 pm9 cd9 ct9 oc10 kV10 dc10 pm10 cd10 ct10 oc11 kV11 dc11 pm11 cd11 ct11 : Value}
    (a0 : PySem.W.nsIn K mainGlobals "even" = some (some (.ref f0))) (l0 : K.lookup f0 = some ⟨oc0, od0, .func (PySem.W.fnOf "even" "even" (defArgs sEven) (defBody sEven) (defScope sEven) .none kV0 dc0 pm0 an0 cd0 ct0), sl0⟩)
    (c0 : PySem.W.codeIn K cd0 "even" = true) (k0 : PySem.W.keepIn K (.ref f0) = true)
    (a1 : PySem.W.nsIn K mainGlobals "cost" = some (some (.ref f1))) (l1 : K.lookup f1 = some ⟨oc1, od1, .func (PySem.W.fnOf "cost" "cost" (defArgs sCost) (defBody sCost) (defScope sCost) .none kV1 dc1 pm1 an1 cd1 ct1), sl1⟩)
    (c1 : PySem.W.codeIn K cd1 "cost" = true) (k1 : PySem.W.keepIn K (.ref f1) = true)
    (a2 : PySem.W.nsIn K mainGlobals "best" = some (some (.ref f2))) (l2 : K.lookup f2 = some ⟨oc2, od2, .func (PySem.W.fnOf "best" "best" (defArgs sBest) (defBody sBest) (defScope sBest) .none kV2 dc2 pm2 an2 cd2 ct2), sl2⟩)
    (c2 : PySem.W.codeIn K cd2 "best" = true) (k2 : PySem.W.keepIn K (.ref f2) = true)
    (a3 : PySem.W.nsIn K mainGlobals "best_costs" = some (some (.ref f3))) (l3 : K.lookup f3 = some ⟨oc3, od3, .func (PySem.W.fnOf "best_costs" "best_costs" (defArgs sBestCosts) (defBody sBestCosts) (defScope sBestCosts) .none kV3 dc3 pm3 an3 cd3 ct3), sl3⟩)
    (c3 : PySem.W.codeIn K cd3 "best_costs" = true) (k3 : PySem.W.keepIn K (.ref f3) = true)
    (a4 : PySem.W.nsIn K mainGlobals "best_even" = some (some (.ref f4))) (l4 : K.lookup f4 = some ⟨oc4, od4, .func (PySem.W.fnOf "best_even" "best_even" (defArgs sBestEven) (defBody sBestEven) (defScope sBestEven) .none kV4 dc4 pm4 an4 cd4 ct4), sl4⟩)
    (c4 : PySem.W.codeIn K cd4 "best_even" = true) (k4 : PySem.W.keepIn K (.ref f4) = true)
    (a5 : PySem.W.nsIn K mainGlobals "_law_cell" = some (some (.ref f5))) (l5 : K.lookup f5 = some ⟨oc5, od5, .func (PySem.W.fnOf "_law_cell" "_law_cell" (defArgs sCell) (defBody sCell) (defScope sCell) .none kV5 dc5 pm5 an5 cd5 ct5), sl5⟩)
    (c5 : PySem.W.codeIn K cd5 "_law_cell" = true) (k5 : PySem.W.keepIn K (.ref f5) = true)
    (a6 : PySem.W.nsIn K mainGlobals "_law_digits" = some (some (.ref f6))) (l6 : K.lookup f6 = some ⟨oc6, od6, .func (PySem.W.fnOf "_law_digits" "_law_digits" (defArgs sDigits) (defBody sDigits) (defScope sDigits) .none kV6 dc6 pm6 an6 cd6 ct6), sl6⟩)
    (c6 : PySem.W.codeIn K cd6 "_law_digits" = true) (k6 : PySem.W.keepIn K (.ref f6) = true)
    (a7 : PySem.W.nsIn K mainGlobals "_law_draw" = some (some (.ref f7))) (l7 : K.lookup f7 = some ⟨oc7, od7, .func (PySem.W.fnOf "_law_draw" "_law_draw" (defArgs sDraw) (defBody sDraw) (defScope sDraw) .none kV7 dc7 pm7 an7 cd7 ct7), sl7⟩)
    (c7 : PySem.W.codeIn K cd7 "_law_draw" = true) (k7 : PySem.W.keepIn K (.ref f7) = true)
    (a8 : PySem.W.nsIn K mainGlobals "_law_same" = some (some (.ref f8))) (l8 : K.lookup f8 = some ⟨oc8, od8, .func (PySem.W.fnOf "_law_same" "_law_same" (defArgs sSame) (defBody sSame) (defScope sSame) .none kV8 dc8 pm8 an8 cd8 ct8), sl8⟩)
    (c8 : PySem.W.codeIn K cd8 "_law_same" = true) (k8 : PySem.W.keepIn K (.ref f8) = true)
    (a9 : PySem.W.nsIn K mainGlobals "_law_cost" = some (some (.ref f9))) (l9 : K.lookup f9 = some ⟨oc9, od9, .func (PySem.W.fnOf "_law_cost" "_law_cost" (defArgs sLCost) (defBody sLCost) (defScope sLCost) .none kV9 dc9 pm9 an9 cd9 ct9), sl9⟩)
    (c9 : PySem.W.codeIn K cd9 "_law_cost" = true) (k9 : PySem.W.keepIn K (.ref f9) = true)
    (a10 : PySem.W.nsIn K mainGlobals "_law_divisions" = some (some (.ref f10))) (l10 : K.lookup f10 = some ⟨oc10, od10, .func (PySem.W.fnOf "_law_divisions" "_law_divisions" (defArgs sDivs) (defBody sDivs) (defScope sDivs) .none kV10 dc10 pm10 an10 cd10 ct10), sl10⟩)
    (c10 : PySem.W.codeIn K cd10 "_law_divisions" = true) (k10 : PySem.W.keepIn K (.ref f10) = true)
    (a11 : PySem.W.nsIn K mainGlobals "law" = some (some (.ref f11))) (l11 : K.lookup f11 = some ⟨oc11, od11, .func (PySem.W.fnOf "law" "law" (defArgs sLaw) (defBody sLaw) (defScope sLaw) .none kV11 dc11 pm11 an11 cd11 ct11), sl11⟩)
    (c11 : PySem.W.codeIn K cd11 "law" = true) (k11 : PySem.W.keepIn K (.ref f11) = true)
    {tk_MOST_PARTS : Tok} (y_MOST_PARTS : PySem.W.nsIn K mainGlobals "MOST_PARTS" = some (some (.int 6 tk_MOST_PARTS)))
    (z_range : PySem.W.nsIn K mainGlobals "range" = some none)
    (z_len : PySem.W.nsIn K mainGlobals "len" = some none)
    (z_tuple : PySem.W.nsIn K mainGlobals "tuple" = some none)
    (z_int : PySem.W.nsIn K mainGlobals "int" = some none)
    (z_repr : PySem.W.nsIn K mainGlobals "repr" = some none)
    (z_sum : PySem.W.nsIn K mainGlobals "sum" = some none)
    (z_min : PySem.W.nsIn K mainGlobals "min" = some none)
    (z_max : PySem.W.nsIn K mainGlobals "max" = some none)
    (z_sorted : PySem.W.nsIn K mainGlobals "sorted" = some none) :
    ∃ fd : FuncData, (∀ (s : Shared) (v : Value), BindsTo s fd ⟨[v], []⟩ [("script", v)]) ∧ ∀ base : Heap, K.In base → base.Ns mainGlobals mg → GOk l.prog w K mg base 8 fa fd ["script"] (spLaw K) := by
  have e := hfa.symm.trans (PySem.W.mg_of X G a11)
  cases e
  have F0 := fun_mk (st := sEven) l0 c0 k0
  have b0 := F0.binds (ps := ["work", "count"]) fun _ _ _ _ _ _ us hl => match us, hl with | [_, _], _ => rfl
  have g0 := PySem.W.mg_of X G a0
  have F1 := fun_mk (st := sCost) l1 c1 k1
  have b1 := F1.binds (ps := ["parts", "overhead", "faults"]) fun _ _ _ _ _ _ us hl => match us, hl with | [_, _, _], _ => rfl
  have g1 := PySem.W.mg_of X G a1
  have F2 := fun_mk (st := sBest) l2 c2 k2
  have b2 := F2.binds (ps := ["work", "overhead", "faults"]) fun _ _ _ _ _ _ us hl => match us, hl with | [_, _, _], _ => rfl
  have g2 := PySem.W.mg_of X G a2
  have F3 := fun_mk (st := sBestCosts) l3 c3 k3
  have b3 := F3.binds (ps := ["work", "overhead", "most"]) fun _ _ _ _ _ _ us hl => match us, hl with | [_, _, _], _ => rfl
  have g3 := PySem.W.mg_of X G a3
  have F4 := fun_mk (st := sBestEven) l4 c4 k4
  have b4 := F4.binds (ps := ["work", "overhead", "faults"]) fun _ _ _ _ _ _ us hl => match us, hl with | [_, _, _], _ => rfl
  have g4 := PySem.W.mg_of X G a4
  have F5 := fun_mk (st := sCell) l5 c5 k5
  have b5 := F5.binds (ps := ["script", "k"]) fun _ _ _ _ _ _ us hl => match us, hl with | [_, _], _ => rfl
  have g5 := PySem.W.mg_of X G a5
  have F6 := fun_mk (st := sDigits) l6 c6 k6
  have b6 := F6.binds (ps := ["script", "first", "last"]) fun _ _ _ _ _ _ us hl => match us, hl with | [_, _, _], _ => rfl
  have g6 := PySem.W.mg_of X G a6
  have F7 := fun_mk (st := sDraw) l7 c7 k7
  have b7 := F7.binds (ps := ["box", "many"]) fun _ _ _ _ _ _ us hl => match us, hl with | [_, _], _ => rfl
  have g7 := PySem.W.mg_of X G a7
  have F8 := fun_mk (st := sSame) l8 c8 k8
  have b8 := F8.binds (ps := ["actual", "due"]) fun _ _ _ _ _ _ us hl => match us, hl with | [_, _], _ => rfl
  have g8 := PySem.W.mg_of X G a8
  have F9 := fun_mk (st := sLCost) l9 c9 k9
  have b9 := F9.binds (ps := ["parts", "overhead", "faults"]) fun _ _ _ _ _ _ us hl => match us, hl with | [_, _, _], _ => rfl
  have g9 := PySem.W.mg_of X G a9
  have F10 := fun_mk (st := sDivs) l10 c10 k10
  have b10 := F10.binds (ps := ["work", "most"]) fun _ _ _ _ _ _ us hl => match us, hl with | [_, _], _ => rfl
  have g10 := PySem.W.mg_of X G a10
  have F11 := fun_mk (st := sLaw) l11 c11 k11
  have m_MOST_PARTS := PySem.W.mg_of X G y_MOST_PARTS
  have m_range := PySem.W.mg_none_of X G z_range
  have m_len := PySem.W.mg_none_of X G z_len
  have m_tuple := PySem.W.mg_none_of X G z_tuple
  have m_int := PySem.W.mg_none_of X G z_int
  have m_repr := PySem.W.mg_none_of X G z_repr
  have m_sum := PySem.W.mg_none_of X G z_sum
  have m_min := PySem.W.mg_none_of X G z_min
  have m_max := PySem.W.mg_none_of X G z_max
  have m_sorted := PySem.W.mg_none_of X G z_sorted
  refine ⟨PySem.W.fnOf "law" "law" (defArgs sLaw) (defBody sLaw) (defScope sLaw) .none kV11 dc11 pm11 an11 cd11 ct11, fun s v => .of_eq rfl, fun base _ _ => ?_⟩
  have GE := ok_even (P := l.prog) (w := w) (mg := mg) (base := base) F0
  have GO := ok_cost (P := l.prog) (w := w) (base := base) F1 m_sum m_len m_max
  have GBE := ok_bestEven F4 F0 GE b0 g0 F1 GO b1 g1 m_MOST_PARTS m_range m_min
  have GB := ok_best F2 F0 GE b0 g0 F4 GBE b4 g4 m_tuple
  have GK := ok_bestCosts F3 F4 GBE b4 g4 m_range m_tuple
  have GC := ok_cell (P := l.prog) (w := w) (base := base) F5 m_len
  have GDi := ok_digits F6 F5 GC b5 g5 m_range m_int
  have GD := ok_draw (P := l.prog) (w := w) (base := base) F7 m_len m_int
  have GS := ok_same (P := l.prog) (w := w) (base := base) F8 m_repr
  have GLC := ok_lcost (P := l.prog) (w := w) (base := base) F9 m_sum m_max
  have GV := ok_divs (P := l.prog) (w := w) (base := base) F10 b10 g10 m_range 6
  exact ok_law F11 F6 GDi b6 g6 F7 GD b7 g7 F8 GS b8 g8 F9 GLC b9 g9 F10 GV b10 g10 F0 GE b0 g0 F2 GB b2 g2 F3 GK b3 g3 F1 GO b1 g1 m_range m_len m_tuple m_min m_max m_sum m_int m_sorted
end Fd

open PySem PySem.W PyProof.Rows in
set_option maxRecDepth 100000 in
set_option maxHeartbeats 0 in
theorem PySem.Challenge.cw_faultdue_k10_best_of_all_holds : PySem.Challenge.rw_faultdue_k10_best_of_all.Holds := by
  w_on; o_law; k_head; (case hw => w_witness2)
  k_fill
  refine Fd.walk_ofG (l := PySem.Challenge.rw_faultdue_k10_best_of_all) (n := 63) (k := 8) (x := "script") (sp := fun w => Fd.spLaw _) rfl (by decide) rfl ⟨rfl, by decide, by decide⟩ (fun w h Y => PySem.W.kIn_of Y) ?F (fun _ _ a ns hl _ hS => ⟨a, ns, rfl, hS, hl, fun _ => rfl⟩)
  case F =>
    intro w mg fa h KX G hmg
    refine' Fd.all_mk KX G hmg ?a0 ?l0 ?c0 ?k0 ?a1 ?l1 ?c1 ?k1 ?a2 ?l2 ?c2 ?k2 ?a3 ?l3 ?c3 ?k3 ?a4 ?l4 ?c4 ?k4 ?a5 ?l5 ?c5 ?k5 ?a6 ?l6 ?c6 ?k6 ?a7 ?l7 ?c7 ?k7 ?a8 ?l8 ?c8 ?k8 ?a9 ?l9 ?c9 ?k9 ?a10 ?l10 ?c10 ?k10 ?a11 ?l11 ?c11 ?k11 ?y_MOST_PARTS ?z_range ?z_len ?z_tuple ?z_int ?z_repr ?z_sum ?z_min ?z_max ?z_sorted
    (case a0 => k_is)
    (case l0 => k_is)
    (case c0 => k_is)
    (case k0 => k_is)
    (case a1 => k_is)
    (case l1 => k_is)
    (case c1 => k_is)
    (case k1 => k_is)
    (case a2 => k_is)
    (case l2 => k_is)
    (case c2 => k_is)
    (case k2 => k_is)
    (case a3 => k_is)
    (case l3 => k_is)
    (case c3 => k_is)
    (case k3 => k_is)
    (case a4 => k_is)
    (case l4 => k_is)
    (case c4 => k_is)
    (case k4 => k_is)
    (case a5 => k_is)
    (case l5 => k_is)
    (case c5 => k_is)
    (case k5 => k_is)
    (case a6 => k_is)
    (case l6 => k_is)
    (case c6 => k_is)
    (case k6 => k_is)
    (case a7 => k_is)
    (case l7 => k_is)
    (case c7 => k_is)
    (case k7 => k_is)
    (case a8 => k_is)
    (case l8 => k_is)
    (case c8 => k_is)
    (case k8 => k_is)
    (case a9 => k_is)
    (case l9 => k_is)
    (case c9 => k_is)
    (case k9 => k_is)
    (case a10 => k_is)
    (case l10 => k_is)
    (case c10 => k_is)
    (case k10 => k_is)
    (case a11 => k_is)
    (case l11 => k_is)
    (case c11 => k_is)
    (case k11 => k_is)
    (case y_MOST_PARTS => k_is)
    (case z_range => k_is)
    (case z_len => k_is)
    (case z_tuple => k_is)
    (case z_int => k_is)
    (case z_repr => k_is)
    (case z_sum => k_is)
    (case z_min => k_is)
    (case z_max => k_is)
    (case z_sorted => k_is)
