import PyProof.Rows.All
import Wide.All
import OpenK.AllK
import Wide.FinOn
import PySem.PyData
import HandS.ForMost
import HandS.ForList
import HandS.Zip
import HandS.Conv
import HandS.RevRange
import HandS.Deep
import HandS.Walk
import KE.GoesMore
import HandS.TupAny
import PySem.Challenge.RW_faultdue_k00_uses_and_remains
/-! Budgets as plain lists: chains of parents, what is used, what fits. -/
namespace Fd
structure Bd where
  nm : PySem.Str
  cap : Int
  par : Int

def parAt (B : List Bd) (k : Nat) : Int := match B[k]? with
  | some b => b.par
  | none => -1
def capAt (B : List Bd) (k : Nat) : Int := match B[k]? with
  | some b => b.cap
  | none => 0
/-- each parent is -1 or an earlier index -/
def WF (B : List Bd) : Prop := ∀ (k : Nat) (b : Bd), B[k]? = some b → -1 ≤ b.par ∧ b.par < k
theorem parAt_lt {B : List Bd} (h : WF B) (k : Nat) : -1 ≤ parAt B k ∧ parAt B k < k := by
  unfold parAt
  split
  · rename_i b e; exact h k b e
  · omega
def ch (B : List Bd) : Nat → Int → List Int
  | 0, _ => []
  | f + 1, k => if k < 0 then [] else k :: ch B f (parAt B k.toNat)
theorem ch_fuel {B : List Bd} (h : WF B) : ∀ (n f g : Nat) (k : Int), (k + 1).toNat ≤ n → n ≤ f → n ≤ g → ch B f k = ch B g k := by
  intro n
  induction n with
  | zero =>
    intro f g k hk _ _
    have hk' : k < 0 := by omega
    cases f <;> cases g <;> simp [ch, hk']
  | succ n ih =>
    intro f g k hk hf hg
    obtain ⟨f', rfl⟩ : ∃ f', f = f' + 1 := ⟨f - 1, by omega⟩
    obtain ⟨g', rfl⟩ : ∃ g', g = g' + 1 := ⟨g - 1, by omega⟩
    by_cases hk' : k < 0
    · simp [ch, hk']
    · have hp := parAt_lt h k.toNat
      simp only [ch, if_neg hk']
      rw [ih f' g' (parAt B k.toNat) (by omega) (by omega) (by omega)]
/-- k and what is above it -/
def full (B : List Bd) (k : Int) : List Int := ch B (k + 1).toNat k
theorem full_neg {B : List Bd} {k : Int} (hk : k < 0) : full B k = [] := by
  unfold full
  have e : (k + 1).toNat = 0 := by omega
  rw [e]; rfl
theorem full_pos {B : List Bd} (h : WF B) {k : Int} (hk : 0 ≤ k) : full B k = k :: full B (parAt B k.toNat) := by
  have hp := parAt_lt h k.toNat
  unfold full
  obtain ⟨m, hm⟩ : ∃ m, (k + 1).toNat = m + 1 := ⟨k.toNat, by omega⟩
  rw [hm]
  simp only [ch, if_neg (show ¬ k < 0 by omega)]
  rw [ch_fuel h (parAt B k.toNat + 1).toNat m (parAt B k.toNat + 1).toNat _ (Nat.le_refl _) (by omega) (Nat.le_refl _)]
theorem ch_full {B : List Bd} (h : WF B) {f : Nat} {k : Int} (hf : k < f) : ch B f k = full B k :=
  ch_fuel h (k + 1).toNat f _ k (Nat.le_refl _) (by omega) (Nat.le_refl _)
theorem full_mem {B : List Bd} (h : WF B) : ∀ (n : Nat) (k : Int), (k + 1).toNat ≤ n → ∀ x ∈ full B k, 0 ≤ x ∧ x ≤ k := by
  intro n
  induction n with
  | zero =>
    intro k hk x hx
    rw [full_neg (by omega)] at hx
    cases hx
  | succ n ih =>
    intro k hk x hx
    by_cases hk' : k < 0
    · rw [full_neg hk'] at hx
      cases hx
    · rw [full_pos h (by omega)] at hx
      have hp := parAt_lt h k.toNat
      rcases List.mem_cons.mp hx with e | hx
      · subst e; omega
      · have := ih _ (by omega) x hx
        omega
theorem full_le {B : List Bd} (h : WF B) {k x : Int} (hx : x ∈ full B k) : 0 ≤ x ∧ x ≤ k := full_mem h _ k (Nat.le_refl _) x hx

/-! ### sums -/
def sm : Nat → (Nat → Int) → Int
  | 0, _ => 0
  | n + 1, g => sm n g + g n
theorem sm_congr {g g' : Nat → Int} : ∀ {n : Nat}, (∀ j, j < n → g j = g' j) → sm n g = sm n g'
  | 0, _ => rfl
  | n + 1, h => by
    simp only [sm]
    rw [sm_congr (n := n) fun j hj => h j (by omega), h n (by omega)]
theorem sm_add (g g' : Nat → Int) : ∀ n : Nat, sm n (fun j => g j + g' j) = sm n g + sm n g'
  | 0 => rfl
  | n + 1 => by
    simp only [sm]
    rw [sm_add g g' n]
    omega
theorem sm_zero : ∀ n : Nat, sm n (fun _ => 0) = 0
  | 0 => rfl
  | n + 1 => by simp only [sm]; rw [sm_zero n]; rfl
theorem sm_swap (g : Nat → Nat → Int) (m : Nat) : ∀ n : Nat, sm n (fun i => sm m (g i)) = sm m (fun j => sm n (fun i => g i j))
  | 0 => (sm_zero m).symm
  | n + 1 => by
    show sm n (fun i => sm m (g i)) + sm m (g n) = sm m (fun j => sm n (fun i => g i j) + g n j)
    rw [sm_add, sm_swap g m n]
theorem sm_one (x : Int) (i : Nat) : ∀ n : Nat, sm n (fun j => if j = i then x else 0) = if i < n then x else 0
  | 0 => by simp [sm]
  | n + 1 => by
    simp only [sm]
    rw [sm_one x i n]
    by_cases h1 : i < n
    · rw [if_pos h1, if_neg (show ¬ n = i by omega), if_pos (show i < n + 1 by omega)]; omega
    · by_cases h2 : n = i
      · rw [if_neg h1, if_pos h2, if_pos (show i < n + 1 by omega)]; omega
      · rw [if_neg h1, if_neg h2, if_neg (show ¬ i < n + 1 by omega)]; omega
theorem sm_nonneg {g : Nat → Int} : ∀ {n : Nat}, (∀ j, j < n → 0 ≤ g j) → 0 ≤ sm n g
  | 0, _ => Int.le_refl 0
  | n + 1, h => by
    simp only [sm]
    have h1 := sm_nonneg (n := n) (g := g) fun j hj => h j (by omega)
    have h2 := h n (by omega)
    omega
theorem sm_le {g : Nat → Int} {c : Int} : ∀ {n : Nat}, (∀ j, j < n → g j ≤ c) → sm n g ≤ n * c
  | 0, _ => by simp [sm]
  | n + 1, h => by
    simp only [sm]
    have h1 := sm_le (n := n) (g := g) (c := c) fun j hj => h j (by omega)
    have h2 := h n (by omega)
    have e : ((n + 1 : Nat) : Int) * c = n * c + c := by rw [Int.natCast_add, Int.add_mul]; simp
    omega
theorem sum_filter (p : Nat → Bool) (g : Nat → Int) : ∀ n : Nat, (((List.range n).filter p).map g).sum = sm n (fun j => if p j = true then g j else 0)
  | 0 => rfl
  | n + 1 => by
    rw [List.range_succ, List.filter_append, List.map_append, List.sum_append, sum_filter p g n]
    simp only [sm]
    by_cases h : p n = true
    · simp [h]
    · simp [h]

/-! ### what is used -/
/-- used of the budget k: the faults whose source is k or has it above itself -/
def U (B : List Bd) (f : Nat → Int) (k : Nat) : Int := sm B.length (fun j => if (k : Int) ∈ full B j then f j else 0)
theorem U_congr {B : List Bd} {f g : Nat → Int} (h : ∀ j, j < B.length → f j = g j) (k : Nat) : U B f k = U B g k :=
  sm_congr fun j hj => by rw [h j hj]
theorem U_add (B : List Bd) (f g : Nat → Int) (k : Nat) : U B (fun j => f j + g j) k = U B f k + U B g k := by
  unfold U
  rw [← sm_add]
  refine sm_congr fun j _ => ?_
  by_cases q : (k : Int) ∈ full B j
  · simp only [if_pos q]
  · simp only [if_neg q]; rfl
/-- the indicator's recurrence -/
theorem ind_rec {B : List Bd} (h : WF B) (f : Int) (k : Nat) (hk : k < B.length) : ∀ (n : Nat) (j : Int), (j + 1).toNat ≤ n → j < B.length →
    (if (k : Int) ∈ full B j then f else 0) = (if (k : Int) = j then f else 0) + sm B.length (fun c => if parAt B c = k then (if (c : Int) ∈ full B j then f else 0) else 0) := by
  intro n
  induction n with
  | zero =>
    intro j hj _
    rw [full_neg (show j < 0 by omega)]
    have e : sm B.length (fun c => if parAt B c = k then (if (c : Int) ∈ ([] : List Int) then f else 0) else 0) = 0 :=
      (sm_congr (g' := fun _ => 0) fun c _ => by simp).trans (sm_zero _)
    rw [e, if_neg (List.not_mem_nil), if_neg (show ¬ (k : Int) = j by omega)]
    rfl
  | succ n ih =>
    intro j hj hjl
    by_cases hj0 : j < 0
    · exact ih j (by omega) hjl
    · have hp := parAt_lt h j.toNat
      have ihp := ih (parAt B j.toNat) (by omega) (by omega)
      rw [full_pos h (show 0 ≤ j by omega)]
      have e1 : ∀ c : Nat, c < B.length → (if parAt B c = (k : Int) then (if (c : Int) ∈ j :: full B (parAt B j.toNat) then f else 0) else 0)
          = (if c = j.toNat then (if parAt B j.toNat = (k : Int) then f else 0) else 0) + (if parAt B c = (k : Int) then (if (c : Int) ∈ full B (parAt B j.toNat) then f else 0) else 0) := by
        intro c _
        by_cases hc : c = j.toNat
        · subst hc
          have hn : ¬ ((j.toNat : Nat) : Int) ∈ full B (parAt B j.toNat) := fun q => by
            have := full_le h q
            omega
          have hm : ((j.toNat : Nat) : Int) ∈ j :: full B (parAt B j.toNat) := List.mem_cons.mpr (.inl (by omega))
          rw [if_pos hm, if_neg hn, if_pos rfl]
          split <;> omega
        · have hm : ((c : Int) ∈ j :: full B (parAt B j.toNat)) ↔ (c : Int) ∈ full B (parAt B j.toNat) := by
            constructor
            · intro q
              rcases List.mem_cons.mp q with q | q
              · omega
              · exact q
            · exact fun q => List.mem_cons.mpr (.inr q)
          rw [if_neg hc]
          simp only [hm]
          omega
      rw [sm_congr e1, sm_add, sm_one, if_pos (show j.toNat < B.length by omega)]
      by_cases hkj : (k : Int) = j
      · have hn : ¬ (k : Int) ∈ full B (parAt B j.toNat) := fun q => by
          have := full_le h q
          omega
        rw [if_neg hn] at ihp
        rw [if_neg (show ¬ (k : Int) = parAt B j.toNat by omega)] at ihp
        rw [if_pos (List.mem_cons.mpr (.inl hkj)), if_pos hkj, if_neg (show ¬ parAt B j.toNat = (k : Int) by omega)]
        omega
      · have hm : ((k : Int) ∈ j :: full B (parAt B j.toNat)) ↔ (k : Int) ∈ full B (parAt B j.toNat) := by
          constructor
          · intro q
            rcases List.mem_cons.mp q with q | q
            · exact absurd q hkj
            · exact q
          · exact fun q => List.mem_cons.mpr (.inr q)
        simp only [hm]
        rw [ihp, if_neg hkj]
        by_cases hq : (k : Int) = parAt B j.toNat
        · rw [if_pos hq, if_pos hq.symm]; omega
        · rw [if_neg hq, if_neg (fun z => hq z.symm)]; omega
theorem U_rec {B : List Bd} (h : WF B) (f : Nat → Int) {k : Nat} (hk : k < B.length) : U B f k = f k + sm B.length (fun c => if parAt B c = k then U B f c else 0) := by
  unfold U
  have e : ∀ j, j < B.length → (if (k : Int) ∈ full B (j : Int) then f j else 0) = (if j = k then f k else 0) + sm B.length (fun c => if parAt B c = k then (if (c : Int) ∈ full B j then f j else 0) else 0) := by
    intro j hj
    rw [ind_rec h (f j) k hk ((j : Int) + 1).toNat j (Nat.le_refl _) (by omega)]
    by_cases q : j = k
    · subst q; rw [if_pos rfl, if_pos rfl]
    · rw [if_neg q, if_neg (show ¬ (k : Int) = (j : Int) by omega)]
  rw [sm_congr e, sm_add, sm_one, if_pos hk, sm_swap]
  congr 1
  refine sm_congr fun c _ => ?_
  by_cases q : parAt B c = k
  · simp only [if_pos q]
  · simp only [if_neg q]
    exact sm_zero _
/-- the children from m on -/
def V' (B : List Bd) (f : Nat → Int) (m : Nat) (k : Nat) : Int := f k + sm B.length (fun c => if m ≤ c ∧ parAt B c = k then U B f c else 0)
theorem V_zero {B : List Bd} (h : WF B) (f : Nat → Int) {k : Nat} (hk : k < B.length) : V' B f 0 k = U B f k := by
  rw [U_rec h f hk]
  unfold V'
  congr 1
  exact sm_congr fun c _ => by simp
theorem V_own {B : List Bd} (h : WF B) (f : Nat → Int) {k : Nat} (hk : k < B.length) : V' B f (k + 1) k = U B f k := by
  rw [U_rec h f hk]
  unfold V'
  congr 1
  refine sm_congr fun c _ => ?_
  by_cases q : parAt B c = k
  · have := (parAt_lt h c).2
    rw [if_pos ⟨by omega, q⟩, if_pos q]
  · rw [if_neg (fun z => q z.2), if_neg q]
theorem V_all (B : List Bd) (f : Nat → Int) (k : Nat) : V' B f B.length k = f k := by
  unfold V'
  rw [sm_congr (g' := fun _ => 0) (fun c hc => if_neg (fun z => by omega)), sm_zero]
  omega
theorem V_step {B : List Bd} (f : Nat → Int) {m k : Nat} (hm : m < B.length) : V' B f m k = V' B f (m + 1) k + (if parAt B m = k then U B f m else 0) := by
  unfold V'
  have e : ∀ c, c < B.length → (if m ≤ c ∧ parAt B c = (k : Int) then U B f c else 0) = (if m + 1 ≤ c ∧ parAt B c = (k : Int) then U B f c else 0) + (if c = m then (if parAt B m = (k : Int) then U B f m else 0) else 0) := by
    intro c _
    by_cases q : c = m
    · subst q
      rw [if_neg (show ¬ (c + 1 ≤ c ∧ parAt B c = (k : Int)) from fun z => by omega), if_pos rfl]
      by_cases r : parAt B c = (k : Int)
      · rw [if_pos ⟨Nat.le_refl _, r⟩, if_pos r]; omega
      · rw [if_neg (fun z => r z.2), if_neg r]; omega
    · rw [if_neg q]
      by_cases r : m + 1 ≤ c ∧ parAt B c = (k : Int)
      · rw [if_pos r, if_pos ⟨by omega, r.2⟩]; omega
      · rw [if_neg r, if_neg (fun z => r ⟨by omega, z.2⟩)]; omega
  rw [sm_congr e, sm_add, sm_one, if_pos hm]
  omega
def usedL (B : List Bd) (f : Nat → Int) : List Int := (List.range B.length).map (U B f)
def fitsP (B : List Bd) (f : Nat → Int) : Prop := ∀ k, k < B.length → U B f k ≤ capAt B k
instance (B : List Bd) (f : Nat → Int) : Decidable (fitsP B f) := by unfold fitsP; infer_instance
end Fd

set_option Elab.async false
set_option linter.all false
set_option maxRecDepth 100000
set_option maxHeartbeats 2000000
/-! Rules of my own: repr of data, a def that is called while no repr is under way, enumerate over a tuple. -/
namespace Fd
open PySem PySem.Spec PyProof.Rows L2

/-! ### a promise kept wherever no repr is under way -/
structure GOk (P : Program) (w : World) (K : PySem.W.Frag) (mg : Str → Option Value) (base : Heap) (k : Nat) (f : Addr) (fd : FuncData) (ps : List Str) (sp : Sp) : Prop where
  size : ∀ vs H Q E, sp vs H Q E → vs.length = ps.length
  go : ∀ (A : Around) (out : List Env) (s : Shared) (H : Hp) (ar : Args) (us : List Value) (vs : List V) (Q : VK) (E : XK), A.guards = some [] → Room k A → Env0 P w K mg base A out s H →
    BindsTo s fd ar (ps.zip us) → Vals vs us → sp vs H Q E → codeAny (model P w) A (.call (.ref f) ar) (CR CX0 out P w H s Q E) s

section
variable {P : Program} {w : World} {K : PySem.W.Frag} {mg : Str → Option Value} {base : Heap}
theorem gok_of {x qual : Str} {st : Stmt} {f : Addr} {fd : FuncData} {N ps : List Str} {k : Nat} {sp : Sp} (F : Fun K x qual st f fd) (S : FnScope N ps (defScope st))
    (size : ∀ vs H Q E, sp vs H Q E → vs.length = ps.length)
    (body : ∀ (cdv : Value) (A : Around) (out : List Env) (s : Shared) (H : Hp) (vs : List V) (Q : VK) (E : XK), A.guards = some [] →
      Room k (A.deeper (envOfC qual (defScope st) s.heap.objs.size f cdv)) → sp vs H Q E →
      ∃ t, PSs (cxOf CX0 P w K mg base N qual (defScope st) f cdv A out s H E).nox (defBody st) t ∧ t { nx := fun _ H' => Q .non H', rt := Q } (start N vs) H) :
    GOk P w K mg base (k + 1) f fd ps sp := by
  obtain ⟨c1, c2, c3, c4, c5, c6, cdv, c7, c8, rfl, look, code⟩ := F.ex
  refine ⟨size, fun A out s H ar us vs Q E hg hr e0 hb rel hsp => ?_⟩
  have kin : K.In s.heap := e0.mod.kin.keeps fun b o q => (e0.bs b o q).1
  have par : ∀ y ∈ ps.zip us, (defScope st).names.lookup y.1 = some .local ∨ ((defScope st).names.lookup y.1 = some .cell ∧ ((cellsFrom (s.heap.objs.size + 1) (defScope st).names []).lookup y.1).isSome = true) := by
    intro y hy
    have hp : y.1 ∈ ps := by
      obtain ⟨n, v⟩ := y
      exact (List.of_mem_zip hy).1
    exact (S.par y.1 hp).imp id fun q => ⟨q, PySem.W.cellsFrom_some _ _ _ (.inl q)⟩
  refine codeAny_call_function hr.depth (kin _ _ look) rfl S.co S.gen rfl (PySem.W.codeRec_of kin code) (hb _ _ _ _ ?_)
  refine wpAny_newFunctionEnv_cells S.kind par fun env he s1 inn => ?_
  subst he
  refine ⟨(e0.mod.nolimit.keeps fun b o q => (e0.bs b o q).1).keeps inn.toInCall.keep, codeAny_func ?_⟩
  obtain ⟨t, ht, hq⟩ := body cdv A out s H vs Q E hg (hr.deeper _) hsp
  have I := inv_start (CX := CX0) (E := E) S hr.hd e0 (size _ _ _ _ hsp) rel inn
  refine wpAny_mono (ht.nox.run [] s1 (start N vs) H _ I hq) (fun fl s' hs => ?_) fun _ _ hs => hs
  cases fl with
  | ret u => exact let ⟨v, _, H', J, rv, q⟩ := hs; ⟨v, H', J.os, J.bare, J.base, J.hok, rv, q⟩
  | next => exact let ⟨_, H', J, q⟩ := hs; ⟨V.non, H', J.os, J.bare, J.base, J.hok, rfl, q⟩
  | brk => exact let ⟨_, _, _, q⟩ := hs; False.elim q
  | cont => exact let ⟨_, _, _, q⟩ := hs; False.elim q
end
section
variable {X : Cx} {k : Nat} {f : Addr} {fd : FuncData} {ps : List Str} {sp : Sp} {x : Str} {p pos : Pos} {e : Expr} {es : List Expr} {t : TA}
theorem pe_callG (F : GOk X.prog X.w X.K X.mg X.base k f fd ps sp) (hgu : X.A.guards = some []) (hr : Room k X.A) (hg : Gl X x) (hm : X.mg x = some (.ref f)) (hk : PySem.W.keepIn X.K (.ref f) = true) (hb : Binds X.K fd ps [])
    (ha : PA X (e :: es) t) (hdb : (x == ("__debug__" : Str)) = false := by decide) (he : starEach (e :: es) X.env = (false, eval e X.env) :: starEach es X.env := by rfl)
    (hpl : (backTo pos (starEach es X.env)).any (·.1) = false := by rfl) : PE X (.Call (.Name x p) (e :: es) [] pos) (tCall sp [] E0 t) := by
  constructor
  intro pins s σ H Q I h
  refine wpAny_Call_Name_kw (ld_glob I hg hm ?_ hdb)
  refine PySem.W.callWith_K (h₀ := X.base) I.ok.mod.kin hk (thn (ha.run pos pins s σ H _ I h) fun us s1 hu => ?_) he hpl
  obtain ⟨vs, H1, I1, rel, q⟩ := hu
  have q' : sp vs H1 Q E0 := by rw [List.append_nil] at q; exact q
  have hl : us.length = ps.length := by rw [← rel.length]; exact F.size _ _ _ _ q'
  have bd := hb s1 us I1.kIn (by rw [List.append_nil]; exact hl)
  rw [List.append_nil] at bd
  refine ⟨I1.kIn, wpAny_call (codeAny_mono (F.go X.A X.stack s1 H1 ⟨us, []⟩ us vs Q E0 hgu hr I1.env0 bd rel q') fun r s' hq => ?_)⟩
  cases r with
  | error _ => exact False.elim hq
  | ok fl =>
    cases fl with
    | ret u => exact I1.after hq
    | next => exact False.elim hq
    | brk => exact False.elim hq
    | cont => exact False.elim hq

/-! ### repr -/
/-- data whose text is short: ints below 10^12 -/
def smallD (d : PyData) : Prop := d.showable = true ∧ d.hasDict = false ∧ d.leavesShort 13 = true ∧ d.bulk ≤ 2 ^ 20 ∧ d.depth ≤ 60
theorem call_repr_dp (hgu : X.A.guards = some []) (hu : X.A.units + 64 < cLine) : CallR X (.builtin "repr") (fun xs H Q => ∃ v d, xs = [v] ∧ Dp X.K H v d ∧ smallD d ∧ Q (.str d.shown) H) := by
  intro pins s σ H xs us Q I r h
  obtain ⟨v, d, rfl, dp, ⟨sh, nd, lv, bk, de⟩, q⟩ := h
  obtain ⟨u, rfl, ru⟩ := vals1 r
  have sz : d.shown.length ≤ sizeLine := PyData.shown_fits_bulk (by decide) (Nat.le_refl 13) lv bk
  obtain ⟨as, rd⟩ := Dp.reads I d v u dp ru
  cases dp with
  | non => obtain rfl : u = Value.none := ru; exact PySem.P.repr_of_none ⟨.str _, H, I.tok _, ⟨_, rfl⟩, q⟩
  | bl b => obtain rfl : u = Value.bool b := ru; exact PySem.P.repr_of_bool ⟨.str _, H, I.tok _, ⟨_, rfl⟩, q⟩
  | int i =>
    obtain ⟨tk, rfl⟩ := ru
    exact PySem.P.repr_of_int (of_decide_eq_true sh) ⟨.str _, H, I.tok _, ⟨_, rfl⟩, q⟩
  | str z =>
    obtain ⟨tk, rfl⟩ := ru
    exact PySem.P.repr_of_str ⟨.str _, H, I.tok _, ⟨_, rfl⟩, q⟩ sz
  | lst _ _ =>
    obtain rfl : u = Value.ref _ := ru
    exact repr_of_reads' rd sh (PyData.noDict_hsm nd) hgu (by omega) (fun _ _ z => z) (fun h' u tk hk => ⟨.str _, H, I.kept hk, ⟨_, rfl⟩, q⟩) sz
  | tup _ _ =>
    obtain rfl : u = Value.ref _ := ru
    exact repr_of_reads' rd sh (PyData.noDict_hsm nd) hgu (by omega) (fun _ _ z => z) (fun h' u tk hk => ⟨.str _, H, I.kept hk, ⟨_, rfl⟩, q⟩) sz
end
end Fd

set_option Elab.async false
set_option linter.all false
set_option maxRecDepth 100000
set_option maxHeartbeats 2000000
/-! enumerate over a tuple -/
namespace Fd
open PySem PySem.Spec PyProof.Rows L2 RZ

theorem meets_enumT (l : Addr) (items : Array Value) (n : Nat) (o0 : Obj) (hc : o0.cls = .type "tuple") (hd : o0.data = .seq items n) :
    Meets (Builtin.«enumerate.__new__» ⟨[.type "enumerate", .ref l], []⟩) (fun _ R s => s.heap.get? l = some o0 ∧
      R (.ok (.ret (.ref (s.heap.push { cls := .type "tuple_iterator", data := .fields #[.ref l, .int 0 0] }).objs.size)))
        { s with heap := (s.heap.push { cls := .type "tuple_iterator", data := .fields #[.ref l, .int 0 0] }).push { cls := .type "enumerate", data := .fields #[.none, .bool false, .ref s.heap.objs.size, rawInt 0, .none, .none] } }) :=
  .of_wp fun prog w A R s h => by
    obtain ⟨hp, g, d, tk, os⟩ := s; obtain ⟨hl, h⟩ := h
    have hsub := sub_enumerate
    have hT : Heap.IsTuple (Shared.heap ⟨hp, g, d, tk, os⟩) l items := ⟨_, hl, hc, n, hd⟩
    wp_walk using AutoSeq1.wpAny_loadPart' hl
    refine wpAny_stack_any fun st => wpAny_pure ?_
    split
    · rename_i c _ _ _ _ _
      cases (c == Value.type "enumerate")
      · wp_walk using AutoSeq1.wpAny_loadPart' hl, wpAny_pyIter_tuple hT
        exact ⟨_, rfl, h⟩
      · wp_walk using AutoSeq1.wpAny_loadPart' hl, wpAny_pyIter_tuple hT
        exact ⟨_, rfl, h⟩
    · wp_walk using AutoSeq1.wpAny_loadPart' hl, wpAny_pyIter_tuple hT
      exact ⟨_, rfl, h⟩
section
variable {prog : Program} {w : World} {A : Around} {E : Value → Shared → Prop} {s : Shared}
theorem enumT_new {l : Addr} {items : Array Value} {Q : Value → Shared → Prop} (hT : IsTup s.heap l items)
    (h : ∀ h', IsEnum h' (s.heap.objs.size + 1) s.heap.objs.size 0 .none → h'.IsTupleIter s.heap.objs.size l 0 → h'.objs.size = s.heap.objs.size + 2 →
      (∀ b o, s.heap.get? b = some o → h'.get? b = some o) → Q (.ref (s.heap.objs.size + 1)) { s with heap := h' }) :
    wpAny (model prog w) A (call (.type "enumerate") [.ref l]) Q E s := by
  obtain ⟨ob, hl, hc, n, hd⟩ := hT
  refine callType_new F.called_enumerate (by decide) (F.typeCall_enumerate_1 _) (F.newCall_enumerate_1 _) (fun obj => F.args_object_init_2 obj _) F.entry_enumerate_new
    (meets_enumT l items n ob hc hd) ⟨hl, ?_⟩
  generalize h1 : s.heap.push { cls := .type "tuple_iterator", data := .fields #[.ref l, .int 0 0] } = g1
  have hz : g1.objs.size = s.heap.objs.size + 1 := by rw [← h1]; exact Heap.size_push ..
  have hi : g1.get? s.heap.objs.size = some { cls := .type "tuple_iterator", data := .fields #[.ref l, .int 0 0] } := by rw [← h1]; exact Heap.get?_push_size _ rfl
  have hk : ∀ b o, s.heap.get? b = some o → g1.get? b = some o := fun b o q => by rw [← h1]; exact Heap.get?_push_of_some _ q
  have he : IsEnum (g1.push { cls := .type "enumerate", data := .fields #[.none, .bool false, .ref s.heap.objs.size, rawInt 0, .none, .none] }) (s.heap.objs.size + 1) s.heap.objs.size 0 .none := by
    have q := Heap.get?_push_size g1 (o := { cls := .type "enumerate", data := .fields #[.none, .bool false, .ref s.heap.objs.size, rawInt 0, .none, .none] }) rfl
    rw [hz] at q
    exact q
  rw [hz]
  exact ⟨⟨_, he, rfl⟩, h _ he ⟨_, Heap.get?_push_of_some _ hi, rfl, rfl⟩ (by rw [Heap.size_push, hz]) fun b o q => Heap.get?_push_of_some _ (hk b o q)⟩
end
/-- the tuple at a, each item in a new pair with its place -/
def IteT (K : PySem.W.Frag) (a : Addr) : It :=
  ⟨fun i H => ∃ (xs : List V) (x : V), SqT K H a xs ∧ xs[i]? = some x,
   fun i H v H' => ∃ T x, v = .ref T ∧ H T = none ∧ H' = upd H T (.tup [.int (i : Nat), x]) ∧ ∀ xs, SqT K H a xs → xs[i]? = some x,
   fun i H => ∃ xs : List V, SqT K H a xs ∧ xs.length ≤ i⟩
theorem turn_enumT {P : Program} {w : World} {K : PySem.W.Frag} {elts : List Expr} {kk : Nat} {tpos : Pos} (a e it : Addr) (hea : a ≠ e) (hia : a ≠ it) :
    Turn P w K (.Tuple elts kk tpos) (IteT K a) [e, it] e (fun i h => (∃ old, IsEnum h e it ((i : Nat) : Int) old) ∧ h.IsTupleIter it a i ∧ e ≠ it) where
  mem := List.mem_cons_self
  obj := by
    intro i h st b hb
    obtain ⟨⟨old, he⟩, ⟨ob, ho, hc, hd⟩, _⟩ := st
    rcases List.mem_cons.mp hb with z | hb
    · rw [z]
      exact ⟨_, he, fun v q => nomatch q⟩
    · rcases List.mem_cons.mp hb with z | hb
      · rw [z]
        exact ⟨ob, ho, fun v q => by rw [hd] at q; cases q⟩
      · cases hb
  keep := fun i h h' st k => ⟨let ⟨old, he⟩ := st.1; ⟨old, k e (by simp) _ he⟩, st.2.1.at fun o q => k it (by simp) o q, st.2.2⟩
  item := by
    intro X hP hw hK hc i pins s σ H E I hf st hg
    subst hP hw hK
    obtain ⟨⟨old, he⟩, hit, hne⟩ := st
    obtain ⟨xs, x, hq, hx⟩ := hg
    obtain ⟨its, rv, p, hz⟩ := I.tuple hq
    obtain ⟨u, hu, ru⟩ := rv.get hx
    have hin : i < its.toArray.size := by
      have q := (List.getElem?_eq_some_iff.mp hu).1
      simpa using q
    have lE : e < s.heap.objs.size := Heap.lt_size he
    have lI : it < s.heap.objs.size := let ⟨_, q, _⟩ := hit; Heap.lt_size q
    refine wpAny_pyNext_enum_itemD (Draws.tuple (A := X.A.in1) (prog := X.prog) (w := X.w) (I.ok.hd hc) it a hia its.toArray) he ⟨hit, p⟩ hin hne (by simp [hne, hea.symm]) fun y h' tk hy ho hst hT hsz hk => ?_
    have ey : y = u := by
      have q : its.toArray[i]? = some u := by simpa using hu
      exact Option.some.inj (hy.symm.trans q)
    subst ey
    refine ⟨_, rfl, wpAny_letOwnedTupleGo_enum (s := { s with heap := h', toks := tk + 1 }) ho fun h'' he' sb => ?_⟩
    have nT : s.heap.objs.size ≠ e := Nat.ne_of_gt lE
    have tup2 := (sb.2 _ nT).trans hT
    have new : ObjOk X.prog X.w (upd H s.heap.objs.size (.tup [.int (i : Nat), x])) h'' s.heap.objs.size (.tup [.int (i : Nat), x]) :=
      ⟨by show 2 ≤ sizeLine; decide, [.int i tk, y], .cons ⟨_, rfl⟩ (.cons ru .nil), ⟨_, tup2, rfl, _, rfl⟩⟩
    have I1 : Inv X pins σ (upd H s.heap.objs.size (.tup [.int (i : Nat), x])) { s with heap := h'', toks := tk + 1 } := by
      refine I.turnedNew (ch := [e, it]) (fun b ob hb q => ?_) hf (Nat.le_refl _) new
      have b1 : b ≠ e := fun z => hb (by rw [z]; exact List.mem_cons_self)
      have b2 : b ≠ it := fun z => hb (by rw [z]; exact List.mem_cons_of_mem _ List.mem_cons_self)
      exact (sb.2 b b1).trans (hk b ob b1 b2 q)
    refine ⟨.ref s.heap.objs.size, _, I1, rfl, ⟨_, x, rfl, I.hok.fresh (Nat.le_refl _), rfl, fun ys hy' => by rw [I.tuple_inj hy' hq]; exact hx⟩, ⟨⟨y, ?_⟩, hst.1.at fun o q => (sb.2 it hne.symm).trans q, hne⟩, fun b hb => ?_⟩
    · rw [show ((i + 1 : Nat) : Int) = (i : Int) + 1 by omega]
      exact he'
    · have lb : b < s.heap.objs.size := by
        rcases List.mem_cons.mp hb with z | hb
        · rw [z]; exact lE
        · rcases List.mem_cons.mp hb with z | hb
          · rw [z]; exact lI
          · cases hb
      rw [upd_ne (Nat.ne_of_lt lb)]
      exact (hf b hb).1
  done := by
    intro X hP hw hK hc i pins s σ H E I hf st hg
    subst hP hw hK
    obtain ⟨⟨old, he⟩, hit, hne⟩ := st
    obtain ⟨xs, hq, hx⟩ := hg
    obtain ⟨its, rv, p, hz⟩ := I.tuple hq
    obtain ⟨f0, f1, f2, f3, f4, f5⟩ := hf it (by simp)
    have hl := rv.length
    have hT : s.TypeIs (.ref e) "enumerate" := ⟨_, he, rfl⟩
    unfold pyNext
    refine wpAny_bind (wpAny_attempt (wpAny_callSpecial?_slot (name := Str.ofString "__next__") hT F.slot_enumerate_next (wpAny_call_entry F.slot_enumerate_next hT F.entry_enumerate_next ?_ (F.args_enumerate_next_1 _))))
    show wpAny _ _ (field (.ref e) 2 >>= _) _ _ _
    refine wpAny_bind (wpAny_field he rfl (x := .ref it) rfl ?_)
    refine wpAny_bind (wpAny_nextOf_tuple_end (I.ok.hd hc) hit p (by simp; omega) fun h' ex eb hx' => ?_)
    obtain ⟨oo, ho, hcl⟩ := hx'
    refine wpAny_bind (wpAny_isInstance (T := "StopIteration") (b := true) ⟨oo, ho, hcl⟩ isSubtype_stop ?_)
    exact wpAny_pure ⟨rfl, I.turned (t' := s.toks) (fun b o hb q => eb b o hb q) f0 f1 f3 f4 f5⟩
  self := fun A i s Q E st h => let ⟨⟨_, he⟩, _⟩ := st; wpAny_pyIter_enum he h
def iEnumT (K : PySem.W.Frag) (ta : TA) : TI := fun σ H R => ta σ H fun vs H1 => ∃ a xs, vs = [.ref a] ∧ SqT K H1 a xs ∧ R (IteT K a) H1
theorem pi_enumT {X : Cx} {e : Expr} {ta : TA} {p pos tpos : Pos} {elts : List Expr} {kk : Nat} (hg : Gl X "enumerate") (hm : X.mg "enumerate" = none) (ha : PA X [e] ta) (hs : starEach [e] X.env = [(false, eval e X.env)] := by rfl) :
    PI X (.Tuple elts kk tpos) (.Call (.Name "enumerate" p) [e] [] pos) (iEnumT X.K ta) := by
  constructor
  intro pins s σ H R I h
  refine Call_ (ld_blt I hg hm boot_enumerate (PyProof.Rows.callWith_type1 (thn (ha.run pos pins s σ H _ I h) fun us s1 hv => ?_) hs rfl))
  obtain ⟨vs, H1, I1, r1, a, xs, rfl, hq, q⟩ := hv
  obtain ⟨u, rfl, ru⟩ := vals1 r1
  obtain rfl : u = Value.ref a := ru
  obtain ⟨its, rv, tu, hz⟩ := I1.tuple hq
  refine enumT_new tu fun h' he hit hsz hk => wpAny_pyIter_enum he ?_
  have la : a < s1.heap.objs.size := tu.lt
  refine ⟨s1.heap.objs.size + 1, [s1.heap.objs.size + 1, s1.heap.objs.size], _, _, H1, rfl, I1.kept (t' := s1.toks) hk, turn_enumT a (s1.heap.objs.size + 1) s1.heap.objs.size (Nat.ne_of_lt (Nat.lt_succ_of_lt la)) (Nat.ne_of_lt la), ⟨⟨.none, he⟩, hit, Nat.succ_ne_self _⟩, fun b hb => ?_, q⟩
  have lb : s1.heap.objs.size ≤ b := by
    rcases List.mem_cons.mp hb with z | hb
    · rw [z]; exact Nat.le_succ _
    · rcases List.mem_cons.mp hb with z | hb
      · rw [z]; exact Nat.le_refl _
      · cases hb
  exact I1.fpOk lb (I1.hok.fresh lb)
theorem walk_enumT {K : PySem.W.Frag} {a : Addr} {xs : List V} : Walk (IteT K a) xs.length (fun H => SqT K H a xs) (YPair (fun i => some (.int (i : Nat))) (fun i => xs[i]?)) := by
  refine ⟨fun i _ hi q => ⟨xs, xs[i], q, by simp [hi]⟩, fun _ q => ⟨xs, q, Nat.le_refl _⟩, fun i H v H' _ q y => ?_⟩
  obtain ⟨T, x, h1, h2, h3, h4⟩ := y
  exact ⟨T, .int (i : Nat), x, h1, h2, h3, rfl, h4 xs q⟩
theorem walk_zipT {K : PySem.W.Frag} {a b : Addr} {xs ys : List V} {n : Nat} (hn : n = xs.length) (hn2 : n = ys.length) : Walk (ItzT K a b) n (fun H => SqT K H a xs ∧ SqT K H b ys) (YPair (fun i => xs[i]?) (fun i => ys[i]?)) := by
  refine ⟨fun i _ hi q => ?_, fun _ q => ⟨xs, ys, q.1, q.2, by omega⟩, fun i H v H' _ q y => ?_⟩
  · have h1 : i < xs.length := by omega
    have h2 : i < ys.length := by omega
    exact ⟨xs, ys, xs[i], ys[i], q.1, q.2, by simp [h1], by simp [h2]⟩
  · obtain ⟨T, x, z, h1, h2, h3, h4, h5⟩ := y
    exact ⟨T, x, z, h1, h2, h3, h4 xs q.1, h5 ys q.2⟩
end Fd

set_option Elab.async false
set_option linter.all false
set_option maxRecDepth 100000
set_option maxHeartbeats 2000000
/-! The head of a law whose promise holds where no repr is under way. -/
namespace Fd
open PySem PySem.Spec PyProof.Rows L2

/-- what is tracked at the law's entry: the script alone, unless it is an object of the top -/
def entryH (K : PySem.W.Frag) (a : Addr) (o : Obj) (xs : List V) : Hp := fun b => if b = a ∧ K.lookup a = none then some (.frz o (.lst xs)) else none

theorem law_callG {P : Program} {w : World} {K : PySem.W.Frag} {mg mb : Str → Option Value} {k : Nat} {fa a : Addr} {fd : FuncData} {x : Str} {sp : Sp} {s1 : Shared} {vs : List Value} {ns : List Int}
    (kin : K.In s1.heap) (gl : s1.heap.Ns mainGlobals mg) (bl : s1.heap.Ns builtinsNs mb) (bl2 : ∀ x : Str, x ≠ "__name__" → mb x = bootBuiltins x) (lim : s1.heap.NoLimit) (gens : s1.gens = #[])
    (ha : s1.heap.get? a = some { cls := .type "list", data := .seq vs.toArray }) (hi : IntsAre vs ns) (sz : ns.length ≤ sizeLine) (room : Room k callerA)
    (F : ∀ base : Heap, K.In base → base.Ns mainGlobals mg → GOk P w K mg base k fa fd [x] sp) (bind : ∀ (s : Shared) (u : Value), BindsTo s fd ⟨[u], []⟩ [(x, u)])
    (hsp : ∀ H : Hp, Only H → SqL K H a (ns.map V.int) → sp [.ref a] H (fun v _ => v = .bl true) fun _ _ _ => False) :
    codeAny (model P w) callerA (.call (.ref fa) ⟨[.ref a], []⟩) (fun r s' => r = .ok (.ret (.bool true)) ∧ OldK s1.heap s'.heap ∧ s'.os = s1.os ∧ AllBare s'.gens) s1 := by
  have rel := vals_ints hi
  have lenV := hi.length
  generalize hH : entryH K a { cls := .type "list", data := .seq vs.toArray } (ns.map V.int) = H
  have at_ : ∀ b u, H b = some u → b = a ∧ K.lookup a = none ∧ u = .frz { cls := .type "list", data := .seq vs.toArray } (.lst (ns.map V.int)) := by
    intro b u q
    rw [← hH] at q
    unfold entryH at q
    by_cases c : b = a ∧ K.lookup a = none
    · rw [if_pos c] at q
      exact ⟨c.1, c.2, (Option.some.inj q).symm⟩
    · rw [if_neg c] at q
      cases q
  have only : Only H := fun b => by
    cases q : H b with
    | none => exact .inl rfl
    | some u => exact .inr ⟨_, _, by rw [(at_ b u q).2.2]⟩
  have hok : HOk P w H s1.heap := by
    intro b u q
    obtain ⟨rfl, _, rfl⟩ := at_ b u q
    exact ⟨ha, by rw [List.length_map]; exact sz, vs, _, rel, ha⟩
  have seq : SqL K H a (ns.map V.int) := by
    cases hk : K.lookup a with
    | some o =>
      have e := kin a o hk
      rw [ha] at e
      cases e
      exact .inr ⟨_, vs.toArray, _, hk, rfl, rfl, rfl, by rw [List.size_toArray, lenV]; exact sz, by simpa using rel⟩
    | none =>
      refine .inl (.inr ⟨{ cls := .type "list", data := .seq vs.toArray }, ?_⟩)
      rw [← hH]
      exact if_pos ⟨rfl, hk⟩
  have keep : ∀ {b : Addr} {o : Obj}, s1.heap.get? b = some o → H b = none → (hidT s1.heap H).get? b = some o := fun q n => hidT_get q n
  have dictFree : ∀ {b : Addr} {o : Obj} {es : Array DictEntry} {ep : Nat}, s1.heap.get? b = some o → o.data = .dict es ep → H b = none := by
    intro b o es ep q d
    cases z : H b with
    | none => rfl
    | some u =>
      obtain ⟨rfl, _, _⟩ := at_ b u z
      rw [ha] at q
      cases q
      cases d
  have ns_ : ∀ {b : Addr} {m : Str → Option Value}, s1.heap.Ns b m → (hidT s1.heap H).Ns b m := by
    rintro b m ⟨o, es, ep, q, d, rest⟩
    exact ⟨o, es, ep, keep q (dictFree q d), d, rest⟩
  have kb : K.In (hidT s1.heap H) := by
    intro b o q
    refine keep (kin b o q) ?_
    cases z : H b with
    | none => rfl
    | some u =>
      obtain ⟨rfl, n, _⟩ := at_ b u z
      rw [n] at q
      cases q
  have md : Mod K mg (hidT s1.heap H) := ⟨kb, ns_ gl, ⟨mb, ns_ bl, bl2⟩, by obtain ⟨mc, q1, q2⟩ := lim; exact ⟨mc, ns_ q1, q2⟩⟩
  have e0 : Env0 P w K mg (hidT s1.heap H) callerA [] s1 H :=
    ⟨rfl, md, fun _ _ q => of_hidT q, Nat.le_of_eq (hidT_size _ _), trivial, (fun b hb => nomatch (show b ∈ ([] : List Addr) from hb)), hok, .of_eq gens⟩
  refine codeAny_mono ((F _ kb (ns_ gl)).go callerA [] s1 H ⟨[.ref a], []⟩ [.ref a] [.ref a] _ _ rfl room e0 (bind s1 (.ref a)) (.cons rfl .nil) (hsp H only seq)) fun r s' h => ?_
  cases r with
  | error e => exact False.elim h
  | ok fl =>
    cases fl with
    | next => exact False.elim h
    | brk => exact False.elim h
    | cont => exact False.elim h
    | ret u =>
      obtain ⟨v, H', os, bare, un, hok', ru, rfl⟩ := h
      obtain rfl : u = Value.bool true := ru
      refine ⟨rfl, OldK.of_keep fun b o q => ?_, os, bare⟩
      cases z : H b with
      | none => exact un.keep b o q z (fun c => nomatch (show b ∈ ([] : List Addr) from c)) (fun c => nomatch c)
      | some t =>
        obtain ⟨rfl, _, rfl⟩ := at_ b t z
        have z2 := (hok' b _ (un.frzs b _ _ z)).1
        rw [ha] at q
        cases q
        exact z2

theorem walk_ofG {l : PySem.W.OpenLaw} {n k : Nat} {q : Program} {loose : List Str} {XP : (Str → Option Value) → Heap → Prop} {YP : World → Heap → Prop} {d : DefRec} {K : Params → PySem.W.Frag} {sp : World → Sp} {x : Str}
    (hn : l.most = some n) (hn2 : n ≤ sizeLine) (hdf : d.params.defaults = []) (room : Room k callerA) (hY : ∀ (w : World) (h : Heap), YP w h → (K w.params).In h)
    (F : ∀ (w : World) (mg : Str → Option Value) (fa : Addr) (h : Heap), (K w.params).In h → h.Ns mainGlobals mg → mg d.name = some (.ref fa) →
      ∃ fd : FuncData, (∀ (s : Shared) (u : Value), BindsTo s fd ⟨[u], []⟩ [(x, u)]) ∧ ∀ base : Heap, (K w.params).In base → base.Ns mainGlobals mg → GOk l.prog w (K w.params) mg base k fa fd [x] (sp w))
    (hsp : ∀ (w : World) (H : Hp) (a : Addr) (ns : List Int), ns.length ≤ n → Only H → SqL (K w.params) H a (ns.map V.int) → sp w [.ref a] H (fun v _ => v = .bl true) fun _ _ _ => False) :
    PySem.W.WalkO q loose XP YP l.row.toRowW d [] (fun f vs => PySem.call f vs) := by
  refine Att.attach_call hn hdf fun w s0 s1 mg mb fa o pm cd doc a vs ns G Y ho hd hcd hmg hobj hints hlen hgens => ?_
  obtain ⟨fd, hb, hF⟩ := F w mg fa _ (hY w _ Y) G.T.g hmg
  exact law_callG (hY w _ Y) G.T.g G.T.b G.T.builtins G.T.nolimit hgens hobj hints (Nat.le_trans hlen hn2) room hF hb fun H hO hS => hsp w H a ns hlen hO hS
end Fd

set_option Elab.async false
set_option linter.all false
set_option maxRecDepth 100000
set_option maxHeartbeats 2000000
/-! What the defs speak of: ints on the heap, budgets on the heap. -/
namespace Fd
open PySem PySem.Spec PyProof.Rows L2

/-- xs[i], as an augmented store reads it -/
theorem get_list {X : Cx} : PGet X (fun o i H Q => ∃ (p : Addr) (xs : List V) (k : Nat) (v : V), o = .ref p ∧ i = .int (k : Nat) ∧ SqL X.K H p xs ∧ xs[k]? = some v ∧ Q v H) := by
  intro pins s σ H o i ov iv Q I ro ri h
  obtain ⟨p, xs, k, v, rfl, rfl, hq, hx, q⟩ := h
  cases ro
  obtain ⟨t, rfl⟩ := ri
  obtain ⟨its, r, pl, hz⟩ := I.list hq
  obtain ⟨w, ew, rw'⟩ := r.get hx
  have hk : k < xs.length := (List.getElem?_eq_some_iff.mp hx).1
  have hn := line63
  exact wpAny_getItem_list pl.isList (by omega) (by omega) (by simpa using ew) ⟨v, H, I, rw', q⟩

/-- rules with the written part named (within a comprehension's block) -/
theorem ixT {X : Cx} {K : PySem.W.Frag} (h : X.K = K) : IxR X (rIxT K) := h ▸ ix_tup
theorem ixL {X : Cx} {K : PySem.W.Frag} (h : X.K = K) : IxR X (rIxL K) := h ▸ ix_list
theorem inSeq {X : Cx} {K : PySem.W.Frag} (h : X.K = K) : OpR X (compareOp .In) (rIn K false) := h ▸ op_in_seq
/-- tuples stay -/
def Ts (H H' : Hp) : Prop := ∀ b xs, H b = some (.tup xs) → H' b = some (.tup xs)
theorem Ts.refl (H : Hp) : Ts H H := fun _ _ h => h
theorem Ts.trans {H H1 H2 : Hp} (a : Ts H H1) (b : Ts H1 H2) : Ts H H2 := fun c xs h => b c xs (a c xs h)
theorem Ts.of {H H' : Hp} (s : Same H H') : Ts H H' := fun b xs h => s b _ h
theorem Ts.upd {H : Hp} {p : Addr} {o : HO} (h : ∀ xs, H p ≠ some (.tup xs)) : Ts H (upd H p o) := fun b xs e => by
  have n : b ≠ p := fun z => h xs (z ▸ e)
  rw [upd_ne n]; exact e
theorem Ts.new {H : Hp} {p : Addr} {o : HO} (h : H p = none) : Ts H (L2.upd H p o) := Ts.upd fun xs q => by rw [h] at q; cases q
/-- all is as it was but what stands at x -/
def SmB (x : Addr) (H H' : Hp) : Prop := ∀ b o, b ≠ x → H b = some o → H' b = some o
theorem SmB.of {x : Addr} {H H' : Hp} (s : Same H H') : SmB x H H' := fun b o _ h => s b o h
theorem SmB.refl (x : Addr) (H : Hp) : SmB x H H := fun _ _ _ h => h
theorem SmB.trans {x : Addr} {H H1 H2 : Hp} (a : SmB x H H1) (b : SmB x H1 H2) : SmB x H H2 := fun c o n h => b c o n (a c o n h)
theorem SmB.upd {x : Addr} {H : Hp} {o : HO} : SmB x H (L2.upd H x o) := fun b u n e => by rw [upd_ne n]; exact e
theorem same_new {H : Hp} {p : Addr} {o : HO} (h : H p = none) : Same H (L2.upd H p o) := fun b x e => by
  rw [upd_ne (ne_of_none e h)]; exact e
/-- a store at what was not there at H0 -/
theorem same_upd' {H0 H : Hp} {p : Addr} {o : HO} (s : Same H0 H) (h : H0 p = none) : Same H0 (L2.upd H p o) := fun b x e => by
  rw [upd_ne (ne_of_none e h)]; exact s _ _ e
theorem free_of {H0 H : Hp} {p : Addr} (s : Same H0 H) (h : H p = none) : H0 p = none := s.free h

/-- ints, f 0, f 1, .. -/
def fl (n : Nat) (f : Nat → Int) : List Int := (List.range n).map f
theorem fl_len (n : Nat) (f : Nat → Int) : (fl n f).length = n := by simp [fl]
theorem fl_get {n : Nat} {f : Nat → Int} {i : Nat} (h : i < n) : (fl n f)[i]? = some (f i) := by simp [fl, h]
theorem fl_succ (n : Nat) (f : Nat → Int) : fl (n + 1) f = fl n f ++ [f n] := by simp [fl, List.range_succ]
theorem fl_congr {n : Nat} {f g : Nat → Int} (h : ∀ i, i < n → f i = g i) : fl n f = fl n g := by
  unfold fl
  exact List.map_congr_left fun i hi => h i (List.mem_range.mp hi)
theorem fl_set {n : Nat} {f : Nat → Int} {i : Nat} {x : Int} : (fl n f).set i x = fl n (fun j => if j = i then x else f j) := by
  apply List.ext_getElem?
  intro j
  by_cases hj : j < n
  · rw [fl_get hj]
    by_cases e : j = i
    · subst e
      rw [if_pos rfl, List.getElem?_set_self (by rw [fl_len]; exact hj)]
    · rw [if_neg e, List.getElem?_set_ne (Ne.symm e), fl_get hj]
  · rw [List.getElem?_eq_none (by rw [List.length_set, fl_len]; omega), List.getElem?_eq_none (by rw [fl_len]; omega)]
abbrev iv (l : List Int) : List V := l.map V.int
theorem iv_get {n : Nat} {f : Nat → Int} {i : Nat} (h : i < n) : (iv (fl n f))[i]? = some (.int (f i)) := by rw [List.getElem?_map, fl_get h]; rfl
theorem iv_len (n : Nat) (f : Nat → Int) : (iv (fl n f)).length = n := by rw [List.length_map, fl_len]
theorem iv_set {n : Nat} {f : Nat → Int} {i : Nat} {x : Int} : (iv (fl n f)).set i (.int x) = iv (fl n (fun j => if j = i then x else f j)) := by
  rw [← fl_set]
  exact List.map_set.symm
theorem iv_snoc (l : List Int) (x : Int) : iv (l ++ [x]) = iv l ++ [.int x] := by simp [iv]
theorem usedL_fl (B : List Bd) (f : Nat → Int) : usedL B f = fl B.length (U B f) := rfl

/-- budgets on the heap -/
def BudAt (H : Hp) (p : Addr) (B : List Bd) : Prop :=
  ∃ rs : List Addr, H p = some (.tup (rs.map V.ref)) ∧ rs.length = B.length ∧ ∀ (i : Nat) (b : Bd), B[i]? = some b → ∃ r, rs[i]? = some r ∧ H r = some (.tup [.str b.nm, .int b.cap, .int b.par])
theorem BudAt.ts {H H' : Hp} {p : Addr} {B : List Bd} (h : BudAt H p B) (t : Ts H H') : BudAt H' p B := by
  obtain ⟨rs, h1, h2, h3⟩ := h
  exact ⟨rs, t _ _ h1, h2, fun i b e => let ⟨r, e1, e2⟩ := h3 i b e; ⟨r, e1, t _ _ e2⟩⟩
theorem BudAt.same {H H' : Hp} {p : Addr} {B : List Bd} (h : BudAt H p B) (t : Same H H') : BudAt H' p B := h.ts (Ts.of t)
/-- the k-th budget's tuple -/
theorem BudAt.at {H : Hp} {p : Addr} {B : List Bd} (h : BudAt H p B) {k : Nat} (hk : k < B.length) :
    ∃ (xs : List V) (r : Addr), H p = some (.tup xs) ∧ xs.length = B.length ∧ atI xs (k : Int) = some (.ref r) ∧ xs[k]? = some (.ref r) ∧ H r = some (.tup [.str B[k].nm, .int B[k].cap, .int B[k].par]) := by
  obtain ⟨rs, h1, h2, h3⟩ := h
  obtain ⟨r, e1, e2⟩ := h3 k B[k] (List.getElem?_eq_getElem hk)
  have e3 : (rs.map V.ref)[k]? = some (.ref r) := by rw [List.getElem?_map, e1]; rfl
  exact ⟨_, r, h1, by rw [List.length_map, h2], atI_nat e3, e3, e2⟩
theorem BudAt.tup {H : Hp} {p : Addr} {B : List Bd} (h : BudAt H p B) : ∃ xs : List V, H p = some (.tup xs) ∧ xs.length = B.length := by
  obtain ⟨rs, h1, h2, _⟩ := h
  exact ⟨_, h1, by rw [List.length_map, h2]⟩
theorem parAt_get {B : List Bd} {k : Nat} (hk : k < B.length) : parAt B k = B[k].par := by
  unfold parAt
  rw [List.getElem?_eq_getElem hk]
theorem capAt_get {B : List Bd} {k : Nat} (hk : k < B.length) : capAt B k = B[k].cap := by
  unfold capAt
  rw [List.getElem?_eq_getElem hk]
end Fd

set_option Elab.async false
set_option linter.all false
set_option maxRecDepth 100000
set_option maxHeartbeats 2000000
/-! Data that repr shows: ints, bools, budgets; more of the heap. -/
namespace Fd
open PySem PySem.Spec PyProof.Rows L2 RZ
theorem small_log {x : Int} (h : x.natAbs < 10 ^ 12) : x.natAbs.log2 < 1920 := by
  refine log2_small (Nat.lt_of_lt_of_le h ?_)
  decide +kernel
/-- a row of ints -/
theorem ints_small : ∀ (l : List Int), (∀ x ∈ l, x.natAbs < 10 ^ 12) → PyData.showableAll (l.map PyData.int) = true ∧ PyData.hasDictAll (l.map PyData.int) = false ∧ PyData.leavesShortAll 13 (l.map PyData.int) = true ∧
    PyData.bulkAll (l.map PyData.int) = l.length ∧ PyData.depthAll (l.map PyData.int) ≤ 1
  | [], _ => by simp [PyData.showableAll, PyData.hasDictAll, PyData.leavesShortAll, PyData.bulkAll, PyData.depthAll]
  | x :: l, h => by
    obtain ⟨h1, h2, h3, h4, h5⟩ := ints_small l fun y hy => h y (List.mem_cons_of_mem _ hy)
    have hx := h x List.mem_cons_self
    have e1 := PyData.shown_int_le hx
    have e2 := small_log hx
    refine ⟨?_, ?_, ?_, ?_, ?_⟩
    · simp only [List.map_cons, PyData.showableAll, PyData.showable, h1, e2, decide_true, Bool.and_self]
    · simp only [List.map_cons, PyData.hasDictAll, PyData.hasDict, h2, Bool.or_self]
    · simp only [List.map_cons, PyData.leavesShortAll, PyData.leavesShort, h3, e1, decide_true, Bool.and_self]
    · simp only [List.map_cons, PyData.bulkAll, PyData.bulk, h4, List.length_cons]; omega
    · simp only [List.map_cons, PyData.depthAll, PyData.depth]; omega
theorem small_list {l : List Int} (h : ∀ x ∈ l, x.natAbs < 10 ^ 12) (hl : l.length ≤ 100000) : smallD (.list (l.map PyData.int)) := by
  obtain ⟨h1, h2, h3, h4, h5⟩ := ints_small l h
  refine ⟨by simpa only [PyData.showable] using h1, by simpa only [PyData.hasDict] using h2, by simpa only [PyData.leavesShort] using h3, ?_, ?_⟩
  · simp only [PyData.bulk]; omega
  · simp only [PyData.depth]; omega
theorem small_tup {l : List Int} (h : ∀ x ∈ l, x.natAbs < 10 ^ 12) (hl : l.length ≤ 100000) : smallD (.tuple (l.map PyData.int)) := by
  obtain ⟨h1, h2, h3, h4, h5⟩ := ints_small l h
  refine ⟨by simpa only [PyData.showable] using h1, by simpa only [PyData.hasDict] using h2, by simpa only [PyData.leavesShort] using h3, ?_, ?_⟩
  · simp only [PyData.bulk]; omega
  · simp only [PyData.depth]; omega
theorem small_bool (b : Bool) : smallD (.bool b) := by
  refine ⟨by simp only [PyData.showable], by simp only [PyData.hasDict], by simp only [PyData.leavesShort], ?_, ?_⟩
  · simp only [PyData.bulk]; omega
  · simp only [PyData.depth]; omega
theorem small_int {x : Int} (h : x.natAbs < 10 ^ 12) : smallD (.int x) := by
  have e1 := PyData.shown_int_le h
  have e2 := small_log h
  refine ⟨by simp only [PyData.showable, e2, decide_true], by simp only [PyData.hasDict], by simp only [PyData.leavesShort, e1, decide_true], ?_, ?_⟩
  · simp only [PyData.bulk]; omega
  · simp only [PyData.depth]; omega
theorem dp_ints {K : PySem.W.Frag} {H : Hp} : ∀ l : List Int, DpAll K H (iv l) (l.map PyData.int)
  | [] => .nil
  | x :: l => .cons (.int x) (dp_ints l)
theorem dp_list {K : PySem.W.Frag} {H : Hp} {a : Addr} {l : List Int} (h : H a = some (.lst (iv l))) : Dp K H (.ref a) (.list (l.map PyData.int)) := .lst (SqL.of h) (dp_ints l)
theorem dp_tup {K : PySem.W.Frag} {H : Hp} {a : Addr} {l : List Int} (h : H a = some (.tup (iv l))) : Dp K H (.ref a) (.tuple (l.map PyData.int)) := .tup (SqT.of h) (dp_ints l)
/-- a name that repr shows shortly -/
def nmOk (x : Str) : Prop := x.cps.size ≤ 10 ∧ (x.cps.toList.all fun c => decide (c < 16 ^ 8)) = true
def bdD (b : Bd) : PyData := .tuple [.str b.nm, .int b.cap, .int b.par]
def bdOk (b : Bd) : Prop := nmOk b.nm ∧ b.cap.natAbs < 10 ^ 12 ∧ b.par.natAbs < 10 ^ 12
theorem buds_small : ∀ (B : List Bd), (∀ b ∈ B, bdOk b) → PyData.showableAll (B.map bdD) = true ∧ PyData.hasDictAll (B.map bdD) = false ∧ PyData.leavesShortAll 13 (B.map bdD) = true ∧
    PyData.bulkAll (B.map bdD) ≤ 20 * B.length ∧ PyData.depthAll (B.map bdD) ≤ 3
  | [], _ => by simp [PyData.showableAll, PyData.hasDictAll, PyData.leavesShortAll, PyData.bulkAll, PyData.depthAll]
  | b :: B, h => by
    obtain ⟨h1, h2, h3, h4, h5⟩ := buds_small B fun y hy => h y (List.mem_cons_of_mem _ hy)
    obtain ⟨⟨n1, n2⟩, c, p⟩ := h b List.mem_cons_self
    have e1 := PyData.shown_int_le c
    have e2 := small_log c
    have e3 := PyData.shown_int_le p
    have e4 := small_log p
    refine ⟨?_, ?_, ?_, ?_, ?_⟩
    · simp only [List.map_cons, bdD, PyData.showableAll, PyData.showable, e2, e4, decide_true, Bool.and_self, Bool.true_and]
      exact h1
    · simp only [List.map_cons, bdD, PyData.hasDictAll, PyData.hasDict, Bool.or_self, Bool.false_or]
      exact h2
    · simp only [List.map_cons, bdD, PyData.leavesShortAll, PyData.leavesShort, e1, e3, n2, decide_true, Bool.and_self, Bool.true_and]
      exact h3
    · have q : PyData.bulkAll (B.map bdD) ≤ 20 * B.length := h4
      simp only [List.map_cons, bdD, PyData.bulkAll, PyData.bulk, List.length_cons]
      omega
    · have q : PyData.depthAll (B.map bdD) ≤ 3 := h5
      simp only [List.map_cons, bdD, PyData.depthAll, PyData.depth]
      omega
theorem small_buds {B : List Bd} (h : ∀ b ∈ B, bdOk b) (hl : B.length ≤ 1000) : smallD (.tuple (B.map bdD)) := by
  obtain ⟨h1, h2, h3, h4, h5⟩ := buds_small B h
  refine ⟨by simpa only [PyData.showable] using h1, by simpa only [PyData.hasDict] using h2, by simpa only [PyData.leavesShort] using h3, ?_, ?_⟩
  · simp only [PyData.bulk]; omega
  · simp only [PyData.depth]; omega
theorem dp_buds {K : PySem.W.Frag} {H : Hp} {p : Addr} {B : List Bd} (h : BudAt H p B) : Dp K H (.ref p) (.tuple (B.map bdD)) := by
  obtain ⟨rs, h1, h2, h3⟩ := h
  refine .tup (SqT.of h1) ?_
  clear h1
  induction B generalizing rs with
  | nil =>
    have e : rs = [] := List.length_eq_zero_iff.mp h2
    subst e
    exact .nil
  | cons b B ih =>
    cases rs with
    | nil => cases h2
    | cons r rs =>
      obtain ⟨r', e1, e2⟩ := h3 0 b rfl
      obtain rfl : r = r' := Option.some.inj e1
      refine .cons (.tup (SqT.of e2) (.cons (.str _) (.cons (.int _) (.cons (.int _) .nil)))) (ih rs (by simpa using h2) fun i b' e => ?_)
      obtain ⟨r2, g1, g2⟩ := h3 (i + 1) b' (by simpa using e)
      exact ⟨r2, by simpa using g1, g2⟩
/-! ### what is used stays small -/
theorem U_bound {B : List Bd} {f : Nat → Int} {c : Int} (hc : 0 ≤ c) (hf : ∀ j, j < B.length → 0 ≤ f j ∧ f j ≤ c) (k : Nat) : 0 ≤ U B f k ∧ U B f k ≤ B.length * c := by
  unfold U
  refine ⟨sm_nonneg fun j hj => ?_, sm_le fun j hj => ?_⟩
  · split
    · exact (hf j hj).1
    · exact Int.le_refl 0
  · split
    · exact (hf j hj).2
    · exact hc
end Fd

set_option Elab.async false
set_option linter.all false
set_option maxRecDepth 100000
set_option maxHeartbeats 2000000
namespace Fd
open PySem PySem.Spec PyProof.Rows L2 RZ
def topS (i : Nat) : Stmt := PySem.Challenge.pw_faultdue_k00_uses_and_remains.main.body.getD i (.Pass ⟨0, 0, 0, 0⟩)
abbrev sAbove : Stmt := topS 1
abbrev sUsed : Stmt := topS 2
abbrev sWithin : Stmt := topS 3
abbrev sRemain : Stmt := topS 4
theorem scAbove : FnScope ["budgets", "k", "found", "parent"] ["budgets", "k"] (defScope sAbove) := ⟨rfl, rfl, rfl, by decide +kernel, rfl, by decide +kernel, by decide +kernel⟩
theorem scUsed : FnScope ["budgets", "faults", "totals", "k", "parent"] ["budgets", "faults"] (defScope sUsed) := ⟨rfl, rfl, rfl, by decide +kernel, rfl, by decide +kernel, by decide +kernel⟩
theorem scWithin : FnScope ["budgets", "faults", "total", "budget"] ["budgets", "faults"] (defScope sWithin) := ⟨rfl, rfl, rfl, by decide +kernel, rfl, by decide +kernel, by decide +kernel⟩
theorem scRemain : FnScope ["budgets", "faults", "totals", "k", "name", "capacity", "parent"] ["budgets", "faults"] (defScope sRemain) := ⟨rfl, rfl, rfl, by decide +kernel, rfl, by decide +kernel, by decide +kernel⟩
section
variable {P : Program} {w : World} {K : PySem.W.Frag} {mg : Str → Option Value} {base : Heap}
/-! ### above -/
def spAbove : Sp := fun vs H Q _ => ∃ (p : Addr) (B : List Bd) (k : Nat), vs = [.ref p, .int k] ∧ BudAt H p B ∧ WF B ∧ k < B.length ∧ B.length ≤ 1000 ∧
  ∀ H' l, Same H H' → H l = none → H' l = some (.lst (iv (full B (parAt B k)))) → Q (.ref l) H'
theorem ok_above {f : Addr} {fd : FuncData} (F : Fun K "above" "above" sAbove f fd) : FnOk P w K mg base CX0 1 f fd ["budgets", "k"] spAbove := by
  refine F.ok scAbove (fun vs H Q E h => ?_) (fun cdv A outer s H vs Q E hr h => ?_)
  · obtain ⟨p, B, k, rfl, _⟩ := h
    rfl
  · obtain ⟨p, B, k, rfl, hB, hW, hk, hn, q⟩ := h
    refine ⟨_, pss_cons (ps_set (i := 2) scAbove.nd rfl (.inl rfl) (pe_lst pa_nil))
      (pss_cons (ps_set (i := 3) scAbove.nd rfl (.inl rfl) (pe_ix ix_tup (pe_ix ix_tup (pv 0) (pv 1) (fun _ _ => rfl)) pe_int (fun _ _ => rfl)))
      (pss_cons (ps_while PassesOwn.never (pt_cmpR op_ge (pv 3) pe_int (nomark _))
        (pss_cons (ps_expr (pe_bm PySem.F.plainAttrs_list PySem.F.slot_list_append PySem.F.type_list_append mt_append (pv 2) (pa_cons (pv 3) pa_nil)))
          (pss_one (ps_set (i := 3) scAbove.nd rfl (.inl rfl) (pe_ix ix_tup (pe_ix ix_tup (pv 0) (pv 3) (fun _ _ => rfl)) pe_int (fun _ _ => rfl))))))
      (pss_one (ps_ret (pv 2))))), ?_⟩
    refine ⟨Nat.zero_le _, fun l nl => ?_⟩
    have s1 := same_new (o := .lst []) nl
    obtain ⟨xs, r, h1, hl, h2, _, h3⟩ := (hB.same s1).at hk
    refine ⟨.ref p, rfl, .int k, rfl, p, xs, k, .ref r, rfl, rfl, SqT.of h1, h2, r, _, 2, .int B[k].par, rfl, rfl, SqT.of h3, rfl, ?_⟩
    rw [← parAt_get hk]
    refine while_by (fun σ H' => ∃ (acc : List Int) (c : Int), σ = [some (.ref p), some (.int k), some (.ref l), some (.int c)] ∧ Same H H' ∧ H' l = some (.lst (iv acc)) ∧ acc ++ full B c = full B (parAt B k) ∧ -1 ≤ c ∧ c < B.length ∧ acc.length + (c + 1).toNat ≤ 1000)
      (fun σ _ => match σ with | [_, _, _, some (.int c)] => (c + 1).toNat | _ => 0) ⟨[], parAt B k, rfl, s1, upd_same, rfl, (parAt_lt hW k).1, ?_, ?_⟩ ?_ (fun σ H Q Q' hq h => ?_)
    · have := (parAt_lt hW k).2; omega
    · have := (parAt_lt hW k).2
      show 0 + _ ≤ 1000
      omega
    · rintro σ H' ⟨acc, c, rfl, sm, hl', hc, c0, c1, c2⟩
      refine ⟨.int c, rfl, c, 0, rfl, rfl, _, rfl, ?_⟩
      refine ite2 (fun hge => ?_) (fun hge => ?_)
      · have c0' : 0 ≤ c := of_decide_eq_true hge
        obtain ⟨m, rfl⟩ : ∃ m : Nat, c = m := ⟨c.toNat, by omega⟩
        have hm : m < B.length := by omega
        refine ⟨.ref l, rfl, .inl ⟨rfl, _, SqL.of hl'⟩, .int m, rfl, l, _, _, rfl, rfl, hl', ?_, ?_⟩
        · rw [List.length_map]
          exact small1000 (by omega)
        have sm2 := same_upd' (p := l) (o := .lst (iv acc ++ [.int m])) sm nl
        obtain ⟨xs2, r2, g1, gl, g2, _, g3⟩ := (hB.same sm2).at hm
        refine ⟨.ref p, rfl, .int m, rfl, p, xs2, m, .ref r2, rfl, rfl, SqT.of g1, g2, r2, _, 2, .int B[m].par, rfl, rfl, SqT.of g3, rfl, ?_⟩
        rw [← parAt_get hm]
        have hp := parAt_lt hW m
        refine ⟨⟨acc ++ [(m : Int)], parAt B m, rfl, sm2, ?_, ?_, hp.1, by omega, ?_⟩, ?_⟩
        · rw [upd_same]; simp
        · rw [← hc, full_pos hW c0', List.append_assoc]; rfl
        · rw [List.length_append, List.length_singleton]; omega
        · show (parAt B m + 1).toNat < ((m : Int) + 1).toNat
          omega
      · have hn' : c < 0 := by
          by_cases z : 0 ≤ c
          · exact absurd (decide_eq_true z) hge
          · omega
        rw [full_neg hn', List.append_nil] at hc
        rw [hc] at hl'
        exact ⟨.ref l, rfl, q H' l sm nl hl'⟩
    · obtain ⟨x, e, i, j, e1, e2, b, e3, h⟩ := h
      exact ⟨x, e, i, j, e1, e2, b, e3, hq _ _ h⟩
/-! ### used -/
def spUsed : Sp := fun vs H Q _ => ∃ (p a : Addr) (B : List Bd) (f : Nat → Int), vs = [.ref p, .ref a] ∧ BudAt H p B ∧ WF B ∧ B.length ≤ 1000 ∧ H a = some (.tup (iv (fl B.length f))) ∧
  ∀ H' l, Same H H' → H l = none → H' l = some (.tup (iv (usedL B f))) → Q (.ref l) H'
theorem ok_used {f : Addr} {fd : FuncData} (F : Fun K "used" "used" sUsed f fd) (mL : mg "list" = none) (mR : mg "reversed" = none) (mRg : mg "range" = none) (mLen : mg "len" = none) (mT : mg "tuple" = none) :
    FnOk P w K mg base CX0 1 f fd ["budgets", "faults"] spUsed := by
  refine F.ok scUsed (fun vs H Q E h => ?_) (fun cdv A outer s H vs Q E hr h => ?_)
  · obtain ⟨p, a, B, f, rfl, _⟩ := h
    rfl
  · obtain ⟨p, a, B, f, rfl, hB, hW, hn, ha, q⟩ := h
    refine ⟨_, pss_cons (ps_set (i := 2) scUsed.nd rfl (.inl rfl) (pe_callTy call_list_of (by rfl) mL (by decide +kernel) (pa_cons (pv 1) pa_nil)))
      (pss_cons (ps_for PassesOwn.never rfl (pi_revR (by rfl) mR (prg_1 (by rfl) mRg (pe_callB call_len_seq (by rfl) mLen PySem.boot_len (pa_cons (pv 0) pa_nil)))) (pg_name (i := 3) scUsed.nd rfl (.inl rfl))
        (pss_cons (ps_set (i := 4) scUsed.nd rfl (.inl rfl) (pe_ix ix_tup (pe_ix ix_tup (pv 0) (pv 3) (fun _ _ => rfl)) pe_int (fun _ _ => rfl)))
          (pss_one (ps_if (pt_cmpR op_ge (pv 4) pe_int (nomark _))
            (pss_one (ps_augS (pv 2) (pv 4) get_list (pe_ix ix_list (pv 2) (pv 3) (fun _ _ => rfl)) ip_add set_list))
            pss_nil))))
      (pss_one (ps_ret (pe_tupleOf (by rfl) mT (pv 2))))), ?_⟩
    -- totals = list(faults)
    refine ⟨.ref a, rfl, a, _, rfl, .inr (SqT.of ha), fun l nl => ?_⟩
    have s1 := same_new (o := .lst (iv (fl B.length f))) nl
    obtain ⟨xs, h1, hl⟩ := (hB.same s1).tup
    refine ⟨.ref p, rfl, p, xs, rfl, .inr (SqT.of h1), xs.length, rfl, by omega, by omega, by omega, by omega, ?_⟩
    rw [show (xs.length : Int) - 0 = ((B.length : Nat) : Int) by omega, Int.toNat_natCast]
    refine for_rangeC (fun i σ H' => ∃ y3 y4, σ = [some (.ref p), some (.ref a), some (.ref l), y3, y4] ∧ Same H H' ∧ H' l = some (.lst (iv (fl B.length (V' B f (B.length - i))))))
      ⟨none, none, rfl, s1, ?_⟩ ?_ ?_
    · rw [upd_same, fl_congr (f := f) (g := V' B f (B.length - 0)) fun i _ => (V_all B f i).symm]
    · rintro i σ H' hi ⟨y3, y4, rfl, sm, hl'⟩
      obtain ⟨m, hm⟩ : ∃ m, m = B.length - (i + 1) := ⟨_, rfl⟩
      have hmB : m < B.length := by omega
      have em : (0 : Int) + (B.length : Int) - 1 + (i : Nat) * -1 = ((m : Nat) : Int) := by omega
      have e1 : B.length - i = m + 1 := by omega
      have e2 : B.length - (i + 1) = m := by omega
      rw [e1] at hl'
      rw [em]
      obtain ⟨xs2, r2, g1, gl, g2, _, g3⟩ := (hB.same sm).at hmB
      refine ⟨.ref p, rfl, .int m, rfl, p, xs2, m, .ref r2, rfl, rfl, SqT.of g1, g2, r2, _, 2, .int B[m].par, rfl, rfl, SqT.of g3, rfl, ?_⟩
      rw [← parAt_get hmB]
      have hp := parAt_lt hW m
      refine ⟨_, rfl, _, _, rfl, rfl, _, rfl, ?_⟩
      refine ite2 (fun hge => ?_) (fun hge => ?_)
      · have c0 : 0 ≤ parAt B m := of_decide_eq_true hge
        obtain ⟨c, hc⟩ : ∃ c : Nat, parAt B m = c := ⟨(parAt B m).toNat, by omega⟩
        rw [hc]
        have hcB : c < B.length := by omega
        refine ⟨.ref l, rfl, .int c, rfl, l, _, c, _, rfl, rfl, SqL.of hl', iv_get hcB, .ref l, rfl, .int m, rfl, l, _, m, _, rfl, rfl, SqL.of hl', atI_nat (iv_get hmB), _, _, rfl, rfl, l, _, c, c, rfl, rfl, hl', ?_, ?_⟩
        · unfold ixN
          rw [if_pos (by omega), iv_len, if_pos (by omega), Int.toNat_natCast]
        · refine ⟨_, _, rfl, same_upd' sm nl, ?_⟩
          rw [upd_same, iv_set, e2]
          congr 3
          refine fl_congr fun j hj => ?_
          rw [V_step f hmB]
          by_cases z : j = c
          · subst z
            rw [if_pos rfl, if_pos hc, V_own hW f hmB]
          · rw [if_neg z, if_neg (show ¬ parAt B m = (j : Int) by omega)]
            omega
      · refine ⟨_, _, rfl, sm, ?_⟩
        have c0 : parAt B m < 0 := by
          by_cases z : 0 ≤ parAt B m
          · exact absurd (decide_eq_true z) hge
          · omega
        rw [e2, hl']
        congr 3
        refine fl_congr fun j hj => ?_
        rw [V_step f hmB, if_neg (show ¬ parAt B m = (j : Int) by omega)]
        omega
    · rintro σ H' ⟨y3, y4, rfl, sm, hl'⟩
      rw [Nat.sub_self, fl_congr (g := U B f) fun j hj => V_zero hW f hj, ← usedL_fl] at hl'
      refine ⟨.ref l, rfl, .inl ⟨l, _, rfl, SqL.of hl', fun t nt => ?_⟩⟩
      exact q _ t (sm.trans (same_new nt)) (sm.free nt) upd_same
/-! ### is_within -/
/-- bools g 0, g 1, .. -/
def bs (n : Nat) (g : Nat → Bool) : List Bool := (List.range n).map g
theorem bs_succ (n : Nat) (g : Nat → Bool) : bs (n + 1) g = bs n g ++ [g n] := by simp [bs, List.range_succ]
theorem bs_len (n : Nat) (g : Nat → Bool) : (bs n g).length = n := by simp [bs]
theorem bs_all (n : Nat) (g : Nat → Bool) : (bs n g).all id = decide (∀ k, k < n → g k = true) := by
  rw [Bool.eq_iff_iff, decide_eq_true_iff]
  simp [bs]
def spWithin : Sp := fun vs H Q _ => ∃ (p a : Addr) (B : List Bd) (f : Nat → Int), vs = [.ref p, .ref a] ∧ BudAt H p B ∧ WF B ∧ B.length ≤ 1000 ∧ H a = some (.tup (iv (fl B.length f))) ∧
  ∀ H', Same H H' → Q (.bl (decide (fitsP B f))) H'
theorem ok_within {f fU : Addr} {fd fdU : FuncData} (F : Fun K "is_within" "is_within" sWithin f fd) (FU : Fun K "used" "used" sUsed fU fdU) (GU : FnOk P w K mg base CX0 1 fU fdU ["budgets", "faults"] spUsed)
    (bU : Binds K fdU ["budgets", "faults"] []) (gU : mg "used" = some (.ref fU)) (mA : mg "all" = none) (mZ : mg "zip" = none) : FnOk P w K mg base CX0 2 f fd ["budgets", "faults"] spWithin := by
  refine F.ok scWithin (fun vs H Q E h => ?_) (fun cdv A outer s H vs Q E hr h => ?_)
  · obtain ⟨p, a, B, f, rfl, _⟩ := h
    rfl
  · obtain ⟨p, a, B, f, rfl, hB, hW, hn, ha, q⟩ := h
    refine ⟨_, pss_one (ps_ret (pe_callB (cr_all rfl) (by rfl) mA (by decide +kernel) (pa_cons
      (pe_lc (own := [("total", 2), ("budget", 3)]) (g := gTup K 2 (gCons (gName 2) (gCons (gName 3) gNil))) (tt := tYes) rfl scWithin.nd
        (pi_zipA (by rfl) mZ (pa_cons (pe_call GU hr (by rfl) gU FU.kp bU .nil pass0 (pa_cons (pv 0) (pa_cons (pv 1) pa_nil))) (pa_cons (pv 0) pa_nil)))
        (blkOk_by (N := ["budgets", "faults", "total", "budget"]) (sc := defScope sWithin) (by decide +kernel))
        (fun _ _ _ _ _ => pg_tup rfl (pgs_cons (pg_name (i := 2) scWithin.nd rfl (.inl rfl)) (pgs_cons (pg_name (i := 3) scWithin.nd rfl (.inl rfl)) pgs_nil)))
        (fun _ _ _ _ _ => pts_nil)
        (fun _ _ _ _ _ => pe_cmpR op_le (pv 2) (pe_ix (ixT (K := K) rfl) (pv 3) pe_int (fun _ _ => rfl)) (nomark _)))
      pa_nil))), ?_⟩
    refine ⟨.ref p, rfl, .ref a, rfl, p, a, B, f, rfl, hB, hW, hn, ha, fun H1 u s1 nu hu => ?_⟩
    obtain ⟨xs, h1, hl⟩ := (hB.same s1).tup
    refine ⟨.ref p, rfl, u, p, _, xs, rfl, .inr ⟨SqT.of hu, SqT.of h1, fun D nD => ?_⟩⟩
    have s2 := same_new (o := .lst []) nD
    refine lc_it (walk_zipT (n := B.length) (by rw [usedL_fl, iv_len]) hl.symm) (fun i H' => Same H1 H' ∧ H' D = some (.lst ((bs i (fun k => decide (U B f k ≤ capAt B k))).map V.bl)))
      ⟨s2, upd_same⟩ (fun i H' _ h => ⟨SqT.of (h.1 _ _ hu), SqT.of (h.1 _ _ h1)⟩) ?_ ?_
    · rintro i v H' H2 hi ⟨sm, hD⟩ ⟨T, x, y, rfl, nT, rfl, hx, hy⟩
      dsimp only at hx hy
      have sT := same_new (o := .tup [x, y]) nT
      obtain ⟨xs2, r2, g1, gl, g2, g2', g3⟩ := (hB.same (s1.trans (sm.trans sT))).at hi
      obtain rfl : x = V.int (U B f i) := by
        rw [usedL_fl, iv_get hi] at hx
        exact (Option.some.inj hx).symm
      obtain rfl : y = V.ref r2 := by
        have e := (s1.trans (sm.trans sT)) 
        have e2 : xs2 = xs := by
          have e3 := (sm.trans sT) _ _ h1
          rw [g1] at e3
          injection Option.some.inj e3
        rw [e2, hy] at g2'
        exact Option.some.inj g2'
      refine ⟨T, _, rfl, SqT.of upd_same, rfl, _, _, rfl, _, _, rfl, rfl, rfl, ?_⟩
      dsimp only [tYes]
      rw [if_pos rfl]
      refine ⟨_, rfl, .ref r2, rfl, r2, _, 1, .int B[i].cap, rfl, rfl, SqT.of g3, rfl, _, _, rfl, rfl, _, sT _ _ hD, ?_, same_upd' (sm.trans sT) nD, ?_⟩
      · rw [List.length_map, bs_len]
        exact small1000 (by omega)
      · rw [upd_same, bs_succ, List.map_append, capAt_get hi]
        rfl
    · rintro H' ⟨sm, hD⟩
      refine ⟨D, _, rfl, SqL.of hD, ?_⟩
      have e : (bs B.length (fun k => decide (U B f k ≤ capAt B k))).all id = decide (fitsP B f) := by
        rw [bs_all]
        unfold fitsP
        simp only [decide_eq_true_iff]
      rw [e]
      exact q H' (s1.trans (fun b o z => sm b o z))
/-! ### remaining -/
def remB (B : List Bd) (f : Nat → Int) : List Bd := B.mapIdx fun k b => ⟨b.nm, b.cap - U B f k, b.par⟩
theorem remB_len (B : List Bd) (f : Nat → Int) : (remB B f).length = B.length := List.length_mapIdx
theorem remB_get {B : List Bd} {f : Nat → Int} {i : Nat} {b : Bd} (h : (remB B f)[i]? = some b) : ∃ hi : i < B.length, b = ⟨B[i].nm, B[i].cap - U B f i, B[i].par⟩ := by
  unfold remB at h
  rw [List.getElem?_mapIdx] at h
  by_cases hi : i < B.length
  · rw [List.getElem?_eq_getElem hi] at h
    exact ⟨hi, (Option.some.inj h).symm⟩
  · rw [List.getElem?_eq_none (by omega)] at h
    cases h
def spRemain : Sp := fun vs H Q _ => ∃ (p a : Addr) (B : List Bd) (f : Nat → Int), vs = [.ref p, .ref a] ∧ BudAt H p B ∧ WF B ∧ B.length ≤ 1000 ∧ H a = some (.tup (iv (fl B.length f))) ∧
  ∀ H' l, Same H H' → H l = none → BudAt H' l (remB B f) → Q (.ref l) H'
theorem ok_remain {f fU : Addr} {fd fdU : FuncData} (F : Fun K "remaining" "remaining" sRemain f fd) (FU : Fun K "used" "used" sUsed fU fdU) (GU : FnOk P w K mg base CX0 1 fU fdU ["budgets", "faults"] spUsed)
    (bU : Binds K fdU ["budgets", "faults"] []) (gU : mg "used" = some (.ref fU)) (mT : mg "tuple" = none) (mE : mg "enumerate" = none) : FnOk P w K mg base CX0 2 f fd ["budgets", "faults"] spRemain := by
  refine F.ok scRemain (fun vs H Q E h => ?_) (fun cdv A outer s H vs Q E hr h => ?_)
  · obtain ⟨p, a, B, f, rfl, _⟩ := h
    rfl
  · obtain ⟨p, a, B, f, rfl, hB, hW, hn, ha, q⟩ := h
    refine ⟨_, pss_cons (ps_set (i := 2) scRemain.nd rfl (.inr rfl) (pe_call GU hr (by rfl) gU FU.kp bU .nil pass0 (pa_cons (pv 0) (pa_cons (pv 1) pa_nil))))
      (pss_one (ps_ret (pe_tupleOf (by rfl) mT
        (pe_lc (own := [("k", 3), ("name", 4), ("capacity", 5), ("parent", 6)]) (g := gTup K 2 (gCons (gName 3) (gCons (gTup K 3 (gCons (gName 4) (gCons (gName 5) (gCons (gName 6) gNil)))) gNil))) (tt := tYes) rfl scRemain.nd
          (pi_enumT (by rfl) mE (pa_cons (pv 0) pa_nil))
          (blkOk_by (N := ["budgets", "faults", "totals", "k", "name", "capacity", "parent"]) (sc := defScope sRemain) (by decide +kernel))
          (fun _ _ _ _ _ => pg_tup rfl (pgs_cons (pg_name (i := 3) scRemain.nd rfl (.inl rfl)) (pgs_cons (pg_tup rfl (pgs_cons (pg_name (i := 4) scRemain.nd rfl (.inl rfl)) (pgs_cons (pg_name (i := 5) scRemain.nd rfl (.inl rfl)) (pgs_cons (pg_name (i := 6) scRemain.nd rfl (.inl rfl)) pgs_nil)))) pgs_nil)))
          (fun _ _ _ _ _ => pts_nil)
          (fun _ _ _ _ _ => pe_tup (pa_cons (pv 4) (pa_cons (pe_op op_sub (pv 5) (pe_ix (ixT (K := K) rfl) (pv 2) (pv 3) (fun _ _ => rfl))) (pa_cons (pv 6) pa_nil)))))))), ?_⟩
    refine ⟨.ref p, rfl, .ref a, rfl, p, a, B, f, rfl, hB, hW, hn, ha, fun H1 u s1 nu hu => ?_⟩
    obtain ⟨xs, h1, hl⟩ := (hB.same s1).tup
    refine ⟨.ref p, rfl, p, xs, rfl, SqT.of h1, fun D nD => ?_⟩
    have s2 := same_new (o := .lst []) nD
    refine lc_it walk_enumT (fun i H' => Same H1 H' ∧ ∃ rs : List Addr, H' D = some (.lst (rs.map V.ref)) ∧ rs.length = i ∧
        ∀ (j : Nat) (hj : j < B.length), j < i → ∃ r, rs[j]? = some r ∧ H' r = some (.tup [.str B[j].nm, .int (B[j].cap - U B f j), .int B[j].par]))
      ⟨s2, [], upd_same, rfl, fun j _ z => absurd z (Nat.not_lt_zero _)⟩ (fun i H' _ h => SqT.of (h.1 _ _ h1)) ?_ ?_
    · rintro i v H' H2 hi ⟨sm, rs, hD, hrl, hrs⟩ ⟨T, x, y, rfl, nT, rfl, hx, hy⟩
      dsimp only at hx hy
      rw [hl] at hi
      obtain rfl : x = V.int (i : Nat) := (Option.some.inj hx).symm
      have sT := same_new (o := .tup [V.int (i : Nat), y]) nT
      obtain ⟨xs2, r2, g1, gl, g2, g2', g3⟩ := (hB.same (s1.trans (sm.trans sT))).at hi
      obtain rfl : y = V.ref r2 := by
        have e2 : xs2 = xs := by
          have e3 := (sm.trans sT) _ _ h1
          rw [g1] at e3
          injection Option.some.inj e3
        rw [e2, hy] at g2'
        exact Option.some.inj g2'
      refine ⟨T, _, rfl, SqT.of upd_same, rfl, _, _, rfl, _, _, rfl, ⟨r2, _, rfl, SqT.of g3, rfl, _, _, rfl, _, _, rfl, _, _, rfl, rfl, rfl, rfl, ?_⟩⟩
      dsimp only [tYes]
      rw [if_pos rfl]
      refine ⟨_, rfl, .int B[i].cap, rfl, .ref u, rfl, .int i, rfl, u, _, i, .int (U B f i), rfl, rfl, SqT.of (sT _ _ (sm _ _ hu)), atI_nat (by rw [usedL_fl, iv_get hi]), _, _, rfl, rfl, .int B[i].par, rfl, (by show 3 ≤ sizeLine; decide), fun Z nZ => ?_⟩
      have sZ := same_new (o := .tup [.str B[i].nm, .int (B[i].cap - U B f i), .int B[i].par]) nZ
      refine ⟨_, sZ _ _ (sT _ _ hD), ?_, same_upd' (sm.trans (sT.trans sZ)) nD, rs ++ [Z], ?_, ?_, fun j hj hji => ?_⟩
      · rw [List.length_map, hrl]
        exact small1000 (by omega)
      · rw [upd_same, List.map_append]; rfl
      · rw [List.length_append, hrl]; rfl
      · have nDZ : D ≠ Z := ne_of_none (sT _ _ hD) nZ
        by_cases z : j < i
        · obtain ⟨r, e1, e2⟩ := hrs j hj z
          refine ⟨r, by rw [List.getElem?_append_left (by omega)]; exact e1, ?_⟩
          have nr : r ≠ D := ne_of e2 hD (by intro z; cases z)
          rw [upd_ne nr]
          exact sZ _ _ (sT _ _ e2)
        · obtain rfl : j = i := by omega
          refine ⟨Z, by rw [List.getElem?_append_right (by omega), hrl, Nat.sub_self]; rfl, ?_⟩
          rw [upd_ne nDZ.symm, upd_same]
    · rintro H' ⟨sm, rs, hD, hrl, hrs⟩
      refine .inl ⟨D, _, rfl, SqL.of hD, fun t nt => ?_⟩
      have st := same_new (o := .tup (rs.map V.ref)) nt
      refine q _ t (s1.trans (sm.trans st)) (free_of (s1.trans sm) nt) ⟨rs, upd_same, by rw [hrl, hl, remB_len], fun i b e => ?_⟩
      obtain ⟨hi, rfl⟩ := remB_get e
      obtain ⟨r, e1, e2⟩ := hrs i hi (by omega)
      exact ⟨r, e1, st _ _ e2⟩
end
end Fd

set_option Elab.async false
set_option linter.all false
set_option maxRecDepth 100000
set_option maxHeartbeats 2000000
namespace Fd
open PySem PySem.Spec PyProof.Rows L2 RZ
def topL (i : Nat) : Stmt := PySem.Challenge.pw_faultdue_k00_uses_and_remains.main.body.getD i (.Pass ⟨0, 0, 0, 0⟩)
abbrev sCell : Stmt := topL 6
abbrev sDigits : Stmt := topL 7
abbrev sDraw : Stmt := topL 8
abbrev sSame : Stmt := topL 10
theorem scCell : FnScope ["script", "k"] ["script", "k"] (defScope sCell) := ⟨rfl, rfl, rfl, by decide +kernel, rfl, by decide +kernel, by decide +kernel⟩
theorem scDigits : FnScope ["script", "first", "last", "digits", "k", "cell", "turn", "seed"] ["script", "first", "last"] (defScope sDigits) := ⟨rfl, rfl, rfl, by decide +kernel, rfl, by decide +kernel, by decide +kernel⟩
theorem scDraw : FnScope ["box", "many", "at"] ["box", "many"] (defScope sDraw) := ⟨rfl, rfl, rfl, by decide +kernel, rfl, by decide +kernel, by decide +kernel⟩
theorem scSame : FnScope ["actual", "due"] ["actual", "due"] (defScope sSame) := ⟨rfl, rfl, rfl, by decide +kernel, rfl, by decide +kernel, by decide +kernel⟩
section
variable {P : Program} {w : World} {K : PySem.W.Frag} {mg : Str → Option Value} {base : Heap}
/-! ### a cell of the script -/
def spCell (K : PySem.W.Frag) : Sp := fun vs H Q _ => ∃ (a : Addr) (ns : List Int) (k : Int), vs = [.ref a, .int k] ∧ 0 ≤ k ∧ SqL K H a (iv ns) ∧ ∀ v : Int, Q (.int v) H
theorem ok_cell {f : Addr} {fd : FuncData} (F : Fun K "_law_cell" "_law_cell" sCell f fd) (mLen : mg "len" = none) : FnOk P w K mg base CX0 1 f fd ["script", "k"] (spCell K) := by
  refine F.ok scCell (fun vs H Q E h => ?_) (fun cdv A outer s H vs Q E hr h => ?_)
  · obtain ⟨a, ns, k, rfl, _⟩ := h
    rfl
  · obtain ⟨a, ns, k, rfl, k0, hS, q⟩ := h
    refine ⟨_, pss_cons (ps_if (pt_cmpR op_lt (pv 1) (pe_callB call_len_seq (by rfl) mLen PySem.boot_len (pa_cons (pv 0) pa_nil)) (nomark _))
      (pss_one (ps_ret (pe_ix ix_list (pv 0) (pv 1) (fun _ _ => rfl)))) pss_nil) (pss_one (ps_ret pe_int)), ?_⟩
    refine ⟨_, rfl, .ref a, rfl, a, iv ns, rfl, .inl hS, _, _, rfl, rfl, _, rfl, ite2 (fun hlt => ?_) (fun _ => q 0)⟩
    have hk : k < ((iv ns).length : Int) := of_decide_eq_true hlt
    obtain ⟨m, rfl⟩ : ∃ m : Nat, k = m := ⟨k.toNat, by omega⟩
    have hm : m < ns.length := by rw [List.length_map] at hk; omega
    exact ⟨.ref a, rfl, _, rfl, a, _, m, .int ns[m], rfl, rfl, hS, atI_nat (by rw [List.getElem?_map, List.getElem?_eq_getElem hm]; rfl), q _⟩
/-! ### the digits -/
def spDigits (K : PySem.W.Frag) : Sp := fun vs H Q _ => ∃ (a : Addr) (ns : List Int) (m : Nat), vs = [.ref a, .int 0, .int m] ∧ m ≤ 1000 ∧ SqL K H a (iv ns) ∧
  ∀ H' l ds, Same H H' → H l = none → H' l = some (.lst (iv ds)) → Q (.ref l) H'
theorem ok_digits {f fC : Addr} {fd fdC : FuncData} (F : Fun K "_law_digits" "_law_digits" sDigits f fd) (FC : Fun K "_law_cell" "_law_cell" sCell fC fdC) (GC : FnOk P w K mg base CX0 1 fC fdC ["script", "k"] (spCell K))
    (bC : Binds K fdC ["script", "k"] []) (gC : mg "_law_cell" = some (.ref fC)) (mR : mg "range" = none) (mI : mg "int" = none) : FnOk P w K mg base CX0 2 f fd ["script", "first", "last"] (spDigits K) := by
  refine F.ok scDigits (fun vs H Q E h => ?_) (fun cdv A outer s H vs Q E hr h => ?_)
  · obtain ⟨a, ns, m, rfl, _⟩ := h
    rfl
  · obtain ⟨a, ns, M, rfl, hM, hS, q⟩ := h
    refine ⟨_, pss_cons (ps_set (i := 3) scDigits.nd rfl (.inl rfl) (pe_lst pa_nil))
      (pss_cons (ps_for PassesOwn.never rfl (pi_range2 (by rfl) mR (pa_cons (pv 1) (pa_cons (pv 2) pa_nil))) (pg_name (i := 4) scDigits.nd rfl (.inl rfl))
        (pss_cons (ps_set (i := 5) scDigits.nd rfl (.inl rfl) (pe_call GC hr (by rfl) gC FC.kp bC .nil pass0 (pa_cons (pv 0) (pa_cons (pv 4) pa_nil))))
        (pss_cons (ps_if (pt_cmpR op_lt (pv 5) pe_int (nomark _)) (pss_one (ps_set (i := 5) scDigits.nd rfl (.inl rfl) (pe_op op_sub pe_int (pe_op op_mul pe_int (pv 5))))) pss_nil)
        (pss_one (ps_if (pt_cmpR op_ge (pv 5) (pe_op op_pow pe_int pe_int) (nomark _))
          (pss_one (ps_for PassesOwn.never rfl (pi_range1 (by rfl) mR (pa_cons pe_int pa_nil)) (pg_name (i := 6) scDigits.nd rfl (.inl rfl))
            (pss_one (ps_if (pt_cmpR op_gt (pv 5) pe_int (nomark _))
              (pss_cons (ps_expr (pe_bm PySem.F.plainAttrs_list PySem.F.slot_list_append PySem.F.type_list_append mt_append (pv 3) (pa_cons (pe_op op_mod (pe_callTy call_int1 (by rfl) mI (by decide +kernel) (pa_cons (pv 5) pa_nil)) pe_int) pa_nil)))
                (pss_one (ps_set (i := 5) scDigits.nd rfl (.inl rfl) (pe_op op_fdiv (pv 5) pe_int))))
              pss_nil))))
          (pss_cons (ps_set (i := 7) scDigits.nd rfl (.inl rfl) (pe_op op_mod (pe_callTy call_int1 (by rfl) mI (by decide +kernel) (pa_cons (pe_op op_add (pe_op op_add (pe_op op_mul (pv 5) pe_int) (pe_op op_mul (pv 4) pe_int)) pe_int) pa_nil)) pe_int))
            (pss_one (ps_for PassesOwn.never rfl (pi_range1 (by rfl) mR (pa_cons pe_int pa_nil)) (pg_name (i := 6) scDigits.nd rfl (.inl rfl))
              (pss_cons (ps_set (i := 7) scDigits.nd rfl (.inl rfl) (pe_op op_mod (pe_callTy call_int1 (by rfl) mI (by decide +kernel) (pa_cons (pe_op op_add (pe_op op_add (pe_op op_mul (pv 7) pe_int) (pe_op op_mul pe_int (pv 6))) pe_int) pa_nil)) pe_int))
                (pss_one (ps_expr (pe_bm PySem.F.plainAttrs_list PySem.F.slot_list_append PySem.F.type_list_append mt_append (pv 3) (pa_cons (pe_op op_mod (pe_callTy call_int1 (by rfl) mI (by decide +kernel) (pa_cons (pe_op op_fdiv (pv 7) pe_int) pa_nil)) pe_int) pa_nil)))))))))))))
      (pss_one (ps_ret (pv 3)))), ?_⟩
    refine ⟨Nat.zero_le _, fun l nl => ?_⟩
    have s1 := same_new (o := .lst []) nl
    have szL : ∀ n : Nat, n ≤ 60 * 1000 → n < sizeLine := fun n h => Nat.lt_of_le_of_lt h (by decide)
    refine ⟨_, rfl, _, rfl, 0, M, rfl, ⟨by omega, by omega, by omega, by omega⟩, ?_⟩
    rw [show ((M : Int) - 0).toNat = M by omega]
    refine for_range (fun i σ H' => ∃ y4 y5 y6 y7 ds, σ = [some (.ref a), some (.int 0), some (.int M), some (.ref l), y4, y5, y6, y7] ∧ Same H H' ∧ H' l = some (.lst (iv ds)) ∧ ds.length ≤ 60 * i)
      ⟨none, none, none, none, [], rfl, s1, upd_same, Nat.zero_le _⟩ ?_ ?_
    · rintro i σ H' hi ⟨y4, y5, y6, y7, ds, rfl, sm, hl, hd⟩
      refine ⟨_, rfl, _, rfl, a, ns, 0 + (i : Int), rfl, by omega, sm.seq hS, fun c => ?_⟩
      refine ⟨_, rfl, _, _, rfl, rfl, _, rfl, ite2 (fun _ => ⟨_, rfl, 2, c, rfl, rfl, .inl ⟨by decide, by decide⟩, 1, _, rfl, rfl, ?_⟩) (fun _ => ?_)⟩
      · obtain ⟨c2, hc2⟩ : ∃ c2, c2 = 1 - 2 * c := ⟨_, rfl⟩
        dsimp only
        rw [← hc2]
        clear hc2
        refine ⟨_, rfl, 10, 18, rfl, rfl, ⟨by decide, by decide, by decide⟩, _, _, rfl, rfl, _, rfl, ite2 (fun _ => ?_) (fun _ => ?_)⟩
        · refine ⟨60, rfl, by decide, by decide, for_range (n := 60) (fun t σ H' => ∃ (c : Int) (y6 y7 : Option V) (ds : List Int), σ = [some (.ref a), some (.int 0), some (.int M), some (.ref l), some (.int (0 + (i : Int))), some (.int c), y6, y7] ∧ Same H H' ∧ H' l = some (.lst (iv ds)) ∧ ds.length ≤ 60 * i + t)
            ⟨c2, _, _, ds, rfl, sm, hl, hd⟩ ?_ ?_⟩
          · rintro t σ H' ht ⟨c, y6, y7, ds, rfl, sm, hl, hd⟩
            refine ⟨_, rfl, _, _, rfl, rfl, _, rfl, ite2 (fun _ => ?_) (fun _ => ⟨c, _, _, ds, rfl, sm, hl, by omega⟩)⟩
            refine ⟨.ref l, rfl, .inl ⟨rfl, _, SqL.of hl⟩, _, rfl, .inl ⟨_, rfl, _, _, rfl, rfl, (by show (0 : Int) < 1000; decide), l, _, _, rfl, rfl, hl, ?_, ?_⟩⟩
            · rw [List.length_map]; exact szL _ (by omega)
            · refine ⟨_, rfl, _, _, rfl, rfl, ⟨by decide, by decide⟩, _, _, _, ds ++ [c % 1000], rfl, same_upd' sm nl, ?_, ?_⟩
              · rw [upd_same, iv_snoc]
              · rw [List.length_append, List.length_singleton]; omega
          · rintro σ H' ⟨c, y6, y7, ds, rfl, sm, hl, hd⟩
            exact ⟨_, _, _, _, ds, rfl, sm, hl, by omega⟩
        · refine ⟨_, rfl, _, _, rfl, rfl, .inr ⟨by decide, by decide⟩, _, rfl, _, _, rfl, rfl, .inr ⟨by decide, by decide⟩, _, _, rfl, rfl, _, _, rfl, rfl, .inl ⟨_, rfl, _, _, rfl, rfl, (by show (0 : Int) < 2147483647; decide), ?_⟩⟩
          refine ⟨12, rfl, by decide, by decide, for_range (n := 12) (fun t σ H' => ∃ (z : Int) (y6 : Option V) (ds : List Int), σ = [some (.ref a), some (.int 0), some (.int M), some (.ref l), some (.int (0 + (i : Int))), some (.int c2), y6, some (.int z)] ∧ Same H H' ∧ H' l = some (.lst (iv ds)) ∧ ds.length ≤ 60 * i + t)
            ⟨_, _, ds, rfl, sm, hl, hd⟩ ?_ ?_⟩
          · rintro t σ H' ht ⟨z, y6, ds, rfl, sm, hl, hd⟩
            refine ⟨_, rfl, _, _, rfl, rfl, .inr ⟨by decide, by decide⟩, _, rfl, _, _, rfl, rfl, .inl ⟨by decide, by decide⟩, _, _, rfl, rfl, _, _, rfl, rfl, .inl ⟨_, rfl, _, _, rfl, rfl, (by show (0 : Int) < 2147483647; decide), ?_⟩⟩
            refine ⟨.ref l, rfl, .inl ⟨rfl, _, SqL.of hl⟩, _, rfl, _, _, rfl, rfl, ⟨by decide, by decide⟩, .inl ⟨_, rfl, _, _, rfl, rfl, (by show (0 : Int) < 1000; decide), l, _, _, rfl, rfl, hl, ?_, ?_⟩⟩
            · rw [List.length_map]; exact szL _ (by omega)
            · refine ⟨_, _, ds ++ [(z * 16807 + 7 * (0 + (t : Int)) + 1) % 2147483647 / 997 % 1000], rfl, same_upd' sm nl, ?_, ?_⟩
              · rw [upd_same, iv_snoc]
              · rw [List.length_append, List.length_singleton]; omega
          · rintro σ H' ⟨z, y6, ds, rfl, sm, hl, hd⟩
            exact ⟨_, _, _, _, ds, rfl, sm, hl, by omega⟩
      · obtain ⟨c2, hc2⟩ : ∃ c2, c2 = c := ⟨_, rfl⟩
        rw [← hc2]
        clear hc2
        refine ⟨_, rfl, 10, 18, rfl, rfl, ⟨by decide, by decide, by decide⟩, _, _, rfl, rfl, _, rfl, ite2 (fun _ => ?_) (fun _ => ?_)⟩
        · refine ⟨60, rfl, by decide, by decide, for_range (n := 60) (fun t σ H' => ∃ (c : Int) (y6 y7 : Option V) (ds : List Int), σ = [some (.ref a), some (.int 0), some (.int M), some (.ref l), some (.int (0 + (i : Int))), some (.int c), y6, y7] ∧ Same H H' ∧ H' l = some (.lst (iv ds)) ∧ ds.length ≤ 60 * i + t)
            ⟨c2, _, _, ds, rfl, sm, hl, hd⟩ ?_ ?_⟩
          · rintro t σ H' ht ⟨c, y6, y7, ds, rfl, sm, hl, hd⟩
            refine ⟨_, rfl, _, _, rfl, rfl, _, rfl, ite2 (fun _ => ?_) (fun _ => ⟨c, _, _, ds, rfl, sm, hl, by omega⟩)⟩
            refine ⟨.ref l, rfl, .inl ⟨rfl, _, SqL.of hl⟩, _, rfl, .inl ⟨_, rfl, _, _, rfl, rfl, (by show (0 : Int) < 1000; decide), l, _, _, rfl, rfl, hl, ?_, ?_⟩⟩
            · rw [List.length_map]; exact szL _ (by omega)
            · refine ⟨_, rfl, _, _, rfl, rfl, ⟨by decide, by decide⟩, _, _, _, ds ++ [c % 1000], rfl, same_upd' sm nl, ?_, ?_⟩
              · rw [upd_same, iv_snoc]
              · rw [List.length_append, List.length_singleton]; omega
          · rintro σ H' ⟨c, y6, y7, ds, rfl, sm, hl, hd⟩
            exact ⟨_, _, _, _, ds, rfl, sm, hl, by omega⟩
        · refine ⟨_, rfl, _, _, rfl, rfl, .inr ⟨by decide, by decide⟩, _, rfl, _, _, rfl, rfl, .inr ⟨by decide, by decide⟩, _, _, rfl, rfl, _, _, rfl, rfl, .inl ⟨_, rfl, _, _, rfl, rfl, (by show (0 : Int) < 2147483647; decide), ?_⟩⟩
          refine ⟨12, rfl, by decide, by decide, for_range (n := 12) (fun t σ H' => ∃ (z : Int) (y6 : Option V) (ds : List Int), σ = [some (.ref a), some (.int 0), some (.int M), some (.ref l), some (.int (0 + (i : Int))), some (.int c2), y6, some (.int z)] ∧ Same H H' ∧ H' l = some (.lst (iv ds)) ∧ ds.length ≤ 60 * i + t)
            ⟨_, _, ds, rfl, sm, hl, hd⟩ ?_ ?_⟩
          · rintro t σ H' ht ⟨z, y6, ds, rfl, sm, hl, hd⟩
            refine ⟨_, rfl, _, _, rfl, rfl, .inr ⟨by decide, by decide⟩, _, rfl, _, _, rfl, rfl, .inl ⟨by decide, by decide⟩, _, _, rfl, rfl, _, _, rfl, rfl, .inl ⟨_, rfl, _, _, rfl, rfl, (by show (0 : Int) < 2147483647; decide), ?_⟩⟩
            refine ⟨.ref l, rfl, .inl ⟨rfl, _, SqL.of hl⟩, _, rfl, _, _, rfl, rfl, ⟨by decide, by decide⟩, .inl ⟨_, rfl, _, _, rfl, rfl, (by show (0 : Int) < 1000; decide), l, _, _, rfl, rfl, hl, ?_, ?_⟩⟩
            · rw [List.length_map]; exact szL _ (by omega)
            · refine ⟨_, _, ds ++ [(z * 16807 + 7 * (0 + (t : Int)) + 1) % 2147483647 / 997 % 1000], rfl, same_upd' sm nl, ?_, ?_⟩
              · rw [upd_same, iv_snoc]
              · rw [List.length_append, List.length_singleton]; omega
          · rintro σ H' ⟨z, y6, ds, rfl, sm, hl, hd⟩
            exact ⟨_, _, _, _, ds, rfl, sm, hl, by omega⟩
    · rintro σ H' ⟨y4, y5, y6, y7, ds, rfl, sm, hl, hd⟩
      exact ⟨_, rfl, q H' l ds sm nl hl⟩
/-! ### a draw -/
/-- box = [digits, place] -/
def BoxAt (H : Hp) (b D : Addr) (ds : List Int) (at_ : Nat) : Prop := H b = some (.lst [.ref D, .int at_]) ∧ H D = some (.lst (iv ds))
theorem BoxAt.ne {H : Hp} {b D : Addr} {ds : List Int} {n : Nat} (h : BoxAt H b D ds n) : D ≠ b := by
  refine ne_of h.2 h.1 fun e => ?_
  injection e with e
  cases ds with
  | nil => cases e
  | cons x r => cases e
theorem BoxAt.bump {H : Hp} {b D : Addr} {ds : List Int} {n : Nat} (h : BoxAt H b D ds n) : BoxAt (upd H b (.lst [.ref D, .int (n + 1 : Nat)])) b D ds (n + 1) :=
  ⟨upd_same, by rw [upd_ne h.ne]; exact h.2⟩
theorem BoxAt.same {H H' : Hp} {b D : Addr} {ds : List Int} {n : Nat} (h : BoxAt H b D ds n) (s : Same H H') : BoxAt H' b D ds n := ⟨s _ _ h.1, s _ _ h.2⟩
def spDraw : Sp := fun vs H Q _ => ∃ (b D : Addr) (ds : List Int) (n : Nat) (m : Int), vs = [.ref b, .int m] ∧ BoxAt H b D ds n ∧ 0 < m ∧
  ∀ d : Int, 0 ≤ d → d < m → Q (.int d) (upd H b (.lst [.ref D, .int (n + 1 : Nat)]))
theorem ok_draw {f : Addr} {fd : FuncData} (F : Fun K "_law_draw" "_law_draw" sDraw f fd) (mLen : mg "len" = none) (mI : mg "int" = none) : FnOk P w K mg base CX0 1 f fd ["box", "many"] spDraw := by
  refine F.ok scDraw (fun vs H Q E h => ?_) (fun cdv A outer s H vs Q E hr h => ?_)
  · obtain ⟨b, D, ds, n, m, rfl, _⟩ := h
    rfl
  · obtain ⟨b, D, ds, n, m, rfl, hB, m0, q⟩ := h
    refine ⟨_, pss_cons (ps_set (i := 2) scDraw.nd rfl (.inl rfl) (pe_ix ix_list (pv 0) pe_int (fun _ _ => rfl)))
      (pss_cons (ps_asg (pe_op op_add (pv 2) pe_int) (pg_sub (pv 0) pe_int set_list))
      (pss_cons (ps_if (pt_cmpR op_lt (pv 2) (pe_callB call_len_seq (by rfl) mLen PySem.boot_len (pa_cons (pe_ix ix_list (pv 0) pe_int (fun _ _ => rfl)) pa_nil)) (nomark _))
        (pss_one (ps_ret (pe_op op_mod (pe_callTy call_int1 (by rfl) mI (by decide +kernel) (pa_cons (pe_ix ix_list (pe_ix ix_list (pv 0) pe_int (fun _ _ => rfl)) (pv 2) (fun _ _ => rfl)) pa_nil)) (pv 1)))) pss_nil)
      (pss_one (ps_ret pe_int)))), ?_⟩
    refine ⟨.ref b, rfl, b, _, 1, .int n, rfl, rfl, SqL.of hB.1, rfl, ?_⟩
    refine ⟨_, rfl, _, _, rfl, rfl, .ref b, rfl, b, _, 1, 1, rfl, rfl, hB.1, rfl, ?_⟩
    have e1 : ((n : Int) + 1) = ((n + 1 : Nat) : Int) := by omega
    have hU : upd H b (.lst ([V.ref D, V.int n].set 1 (V.int ((n : Int) + 1)))) = upd H b (.lst [.ref D, .int (n + 1 : Nat)]) := by rw [e1]; rfl
    have hB2 := hB.bump
    show (tSeq _ _) _ _ (upd H b (.lst ([V.ref D, V.int n].set 1 (V.int ((n : Int) + 1)))))
    rw [hU]
    refine ⟨_, rfl, .ref b, rfl, b, _, 0, .ref D, rfl, rfl, SqL.of hB2.1, rfl, D, _, rfl, .inl (SqL.of hB2.2), _, _, rfl, rfl, _, rfl, ite2 (fun hlt => ?_) (fun _ => q 0 (Int.le_refl 0) m0)⟩
    have hn : (n : Int) < ((iv ds).length : Int) := of_decide_eq_true hlt
    have hn' : n < ds.length := by rw [List.length_map] at hn; omega
    refine ⟨.ref b, rfl, b, _, 0, .ref D, rfl, rfl, SqL.of hB2.1, rfl, _, rfl, D, _, n, .int ds[n], rfl, rfl, SqL.of hB2.2, atI_nat (by rw [List.getElem?_map, List.getElem?_eq_getElem hn']; rfl), .inl ⟨_, rfl, .int m, rfl, _, _, rfl, rfl, m0, ?_⟩⟩
    exact q _ (Int.emod_nonneg _ (by omega)) (Int.emod_lt_of_pos _ m0)
/-! ### the same, by repr -/
def spSame (K : PySem.W.Frag) : Sp := fun vs H Q _ => ∃ (x y : V) (d : PyData), vs = [x, y] ∧ Dp K H x d ∧ Dp K H y d ∧ smallD d ∧ Q (.bl true) H
theorem ok_same {f : Addr} {fd : FuncData} (F : Fun K "_law_same" "_law_same" sSame f fd) (mR : mg "repr" = none) : GOk P w K mg base 1 f fd ["actual", "due"] (spSame K) := by
  refine gok_of F scSame (fun vs H Q E h => ?_) (fun cdv A outer s H vs Q E hg hr h => ?_)
  · obtain ⟨x, y, d, rfl, _⟩ := h
    rfl
  · obtain ⟨x, y, d, rfl, h1, h2, h3, q⟩ := h
    refine ⟨_, pss_one (ps_ret (pe_cmpR op_eq (pe_callB (call_repr_dp hg hr.units) (by rfl) mR (by decide +kernel) (pa_cons (pv 0) pa_nil)) (pe_callB (call_repr_dp hg hr.units) (by rfl) mR (by decide +kernel) (pa_cons (pv 1) pa_nil)) (nomark _))), ?_⟩
    refine ⟨x, rfl, x, d, rfl, h1, h3, y, rfl, y, d, rfl, h2, h3, rfl, ?_⟩
    rw [decide_eq_true rfl]
    exact q
end
end Fd

set_option Elab.async false
set_option linter.all false
set_option maxRecDepth 100000
set_option maxHeartbeats 2000000
namespace Fd
open PySem PySem.Spec PyProof.Rows L2 RZ
abbrev sBudgets : Stmt := topL 11
abbrev sPath : Stmt := topL 12
theorem scBudgets : FnScope ["box", "budgets", "k", "capacity"] ["box"] (defScope sBudgets) := ⟨rfl, rfl, rfl, by decide +kernel, rfl, by decide +kernel, by decide +kernel⟩
theorem scPath : FnScope ["budgets", "k", "path", "turn"] ["budgets", "k"] (defScope sPath) := ⟨rfl, rfl, rfl, by decide +kernel, rfl, by decide +kernel, by decide +kernel⟩
theorem SmB.free {x : Addr} {H H' : Hp} {p : Addr} (s : SmB x H H') (hx : H' x ≠ none) (h : H' p = none) : H p = none := by
  cases q : H p with
  | none => rfl
  | some o =>
    by_cases z : p = x
    · subst z; exact absurd h hx
    · rw [s p o z q] at h; cases h
theorem BoxAt.some {H : Hp} {b D : Addr} {ds : List Int} {n : Nat} (h : BoxAt H b D ds n) : H b ≠ none := by rw [h.1]; exact nofun
theorem BoxAt.ts {H : Hp} {b D : Addr} {ds : List Int} {n : Nat} (h : BoxAt H b D ds n) {o : HO} : Ts H (upd H b o) := Ts.upd fun xs q => by rw [h.1] at q; cases q
theorem BoxAt.sm {H : Hp} {b D : Addr} {ds : List Int} {n : Nat} (h : BoxAt H b D ds n) : SmB b H (upd H b (.lst [.ref D, .int (n + 1 : Nat)])) := SmB.upd
theorem BoxAt.tsb {H : Hp} {b D : Addr} {ds : List Int} {n : Nat} (h : BoxAt H b D ds n) : Ts H (upd H b (.lst [.ref D, .int (n + 1 : Nat)])) := h.ts
/-- budgets as they are drawn -/
structure OkB (B : List Bd) : Prop where
  wf : WF B
  one : 1 ≤ B.length
  five : B.length ≤ 5
  each : ∀ (k : Nat) (b : Bd), B[k]? = some b → 0 ≤ b.cap ∧ b.cap ≤ 20 ∧ nmOk b.nm
theorem abc_get : ∀ k, k < 6 → (Str.ofString "abcdef").cps[k]? = some (97 + k) := by decide +kernel
theorem nm_ok : ∀ k, k < 6 → nmOk ((Str.ofString "b") ++ (⟨#[97 + k]⟩ : Str)) := by
  intro k hk
  unfold nmOk
  have h : k = 0 ∨ k = 1 ∨ k = 2 ∨ k = 3 ∨ k = 4 ∨ k = 5 := by omega
  rcases h with rfl | rfl | rfl | rfl | rfl | rfl <;> exact ⟨by decide +kernel, by decide +kernel⟩
/-- one budget more -/
theorem BudAt.snoc {H : Hp} {p q r : Addr} {B : List Bd} {b : Bd} {xs : List V} (h : BudAt H p B) (hp : H p = some (.tup xs)) (hq : H q = some (.tup (xs ++ [.ref r]))) (hr : H r = some (.tup [.str b.nm, .int b.cap, .int b.par])) : BudAt H q (B ++ [b]) := by
  obtain ⟨rs, h1, h2, h3⟩ := h
  rw [hp] at h1
  injection Option.some.inj h1 with e
  subst e
  refine ⟨rs ++ [r], by rw [List.map_append]; exact hq, by simp [h2], fun i b' e => ?_⟩
  by_cases z : i < B.length
  · rw [List.getElem?_append_left z] at e
    obtain ⟨r', e1, e2⟩ := h3 i b' e
    exact ⟨r', by rw [List.getElem?_append_left (by omega)]; exact e1, e2⟩
  · have zi : i = B.length := by
      have := (List.getElem?_eq_some_iff.mp e).1
      simp at this
      omega
    subst zi
    rw [List.getElem?_append_right (Nat.le_refl _), Nat.sub_self] at e
    injection e with e
    subst e
    exact ⟨r, by rw [List.getElem?_append_right (by omega), h2, Nat.sub_self]; rfl, hr⟩
theorem WF.snoc {B : List Bd} {b : Bd} (h : WF B) (h1 : -1 ≤ b.par) (h2 : b.par < B.length) : WF (B ++ [b]) := by
  intro k b' e
  by_cases z : k < B.length
  · rw [List.getElem?_append_left z] at e
    exact h k b' e
  · have zi : k = B.length := by
      have := (List.getElem?_eq_some_iff.mp e).1
      simp at this
      omega
    subst zi
    rw [List.getElem?_append_right (Nat.le_refl _), Nat.sub_self] at e
    injection e with e
    subst e
    exact ⟨h1, h2⟩
theorem each_snoc {B : List Bd} {b : Bd} {R : Bd → Prop} (h : ∀ (k : Nat) (b : Bd), B[k]? = some b → R b) (hb : R b) : ∀ (k : Nat) (b' : Bd), (B ++ [b])[k]? = some b' → R b' := by
  intro k b' e
  by_cases z : k < B.length
  · rw [List.getElem?_append_left z] at e
    exact h k b' e
  · have zi : k = B.length := by
      have := (List.getElem?_eq_some_iff.mp e).1
      simp at this
      omega
    subst zi
    rw [List.getElem?_append_right (Nat.le_refl _), Nat.sub_self] at e
    injection e with e
    subst e
    exact hb
section
variable {P : Program} {w : World} {K : PySem.W.Frag} {mg : Str → Option Value} {base : Heap}
/-! ### drawn budgets -/
def spBudgets : Sp := fun vs H Q _ => ∃ (b D : Addr) (ds : List Int) (n : Nat), vs = [.ref b] ∧ BoxAt H b D ds n ∧
  ∀ (H' : Hp) (p : Addr) (B : List Bd) (n' : Nat), OkB B → SmB b H H' → BoxAt H' b D ds n' → BudAt H' p B → H p = none → Q (.ref p) H'
theorem ok_budgets {f fD : Addr} {fd fdD : FuncData} (F : Fun K "_law_budgets" "_law_budgets" sBudgets f fd) (FD : Fun K "_law_draw" "_law_draw" sDraw fD fdD) (GD : FnOk P w K mg base CX0 1 fD fdD ["box", "many"] spDraw)
    (bD : Binds K fdD ["box", "many"] []) (gD : mg "_law_draw" = some (.ref fD)) (mR : mg "range" = none) : FnOk P w K mg base CX0 2 f fd ["box"] spBudgets := by
  refine F.ok scBudgets (fun vs H Q E h => ?_) (fun cdv A outer s H vs Q E hr h => ?_)
  · obtain ⟨b, D, ds, n, rfl, _⟩ := h
    rfl
  · obtain ⟨b, D, ds, n, rfl, hB, q⟩ := h
    refine ⟨_, pss_cons (ps_set (i := 1) scBudgets.nd rfl (.inl rfl) (pe_tup pa_nil))
      (pss_cons (ps_for PassesOwn.never rfl (pi_range1 (by rfl) mR (pa_cons (pe_op op_add pe_int (pe_call GD hr (by rfl) gD FD.kp bD .nil pass0 (pa_cons (pv 0) (pa_cons pe_int pa_nil)))) pa_nil)) (pg_name (i := 2) scBudgets.nd rfl (.inl rfl))
        (pss_cons (ps_set (i := 3) scBudgets.nd rfl (.inl rfl) (pe_call GD hr (by rfl) gD FD.kp bD .nil pass0 (pa_cons (pv 0) (pa_cons pe_int pa_nil))))
        (pss_cons (ps_if (pt_cmpR op_eq (pe_call GD hr (by rfl) gD FD.kp bD .nil pass0 (pa_cons (pv 0) (pa_cons pe_int pa_nil))) pe_int (nomark _))
          (pss_one (ps_set (i := 3) scBudgets.nd rfl (.inl rfl) (pe_op op_sub pe_int (pe_call GD hr (by rfl) gD FD.kp bD .nil pass0 (pa_cons (pv 0) (pa_cons pe_int pa_nil)))))) pss_nil)
        (pss_one (ps_set (i := 1) scBudgets.nd rfl (.inl rfl) (pe_op op_catA (pv 1) (pe_tup (pa_cons (pe_tup (pa_cons (pe_op op_add_str pe_str (pe_item_str pe_str (pv 2) (fun _ _ => rfl))) (pa_cons (pv 3) (pa_cons (pe_op op_sub (pe_call GD hr (by rfl) gD FD.kp bD .nil pass0 (pa_cons (pv 0) (pa_cons (pe_op op_add (pv 2) pe_int) pa_nil))) pe_int) pa_nil)))) pa_nil))))))))
      (pss_one (ps_ret (pv 1)))), ?_⟩
    refine ⟨Nat.zero_le _, fun p0 np0 => ?_⟩
    have s1 := same_new (o := .tup []) np0
    refine ⟨.ref b, rfl, b, D, ds, n, 5, rfl, hB.same s1, by decide, fun m m0 m5 => ?_⟩
    refine ⟨1, m, rfl, rfl, 1 + m, rfl, by omega, by omega, ?_⟩
    obtain ⟨M, hM⟩ : ∃ M : Nat, (1 + m).toNat = M := ⟨_, rfl⟩
    have hM5 : 1 ≤ M ∧ M ≤ 5 := by omega
    rw [hM]
    refine for_range (fun i σ H' => ∃ (y2 y3 : Option V) (p : Addr) (B : List Bd) (n' : Nat), σ = [some (.ref b), some (.ref p), y2, y3] ∧ SmB b H H' ∧ BoxAt H' b D ds n' ∧ BudAt H' p B ∧ B.length = i ∧ WF B ∧
        (∀ (k : Nat) (b : Bd), B[k]? = some b → 0 ≤ b.cap ∧ b.cap ≤ 20 ∧ nmOk b.nm) ∧ H p = none)
      ⟨none, none, p0, [], n + 1, rfl, (SmB.of s1).trans SmB.upd, (hB.same s1).bump, ⟨[], (hB.same s1).ts _ _ upd_same, rfl, fun i b e => nomatch e⟩, rfl, (fun k b e => nomatch e), (fun k b e => nomatch e), np0⟩ ?_ ?_
    · rintro i σ H' hi ⟨y2, y3, p, B, n', rfl, sm, bx, bu, hBl, wf, ea, np⟩
      refine ⟨.ref b, rfl, b, D, ds, n', 4, rfl, bx, by decide, fun c c0 c4 => ?_⟩
      refine ⟨.ref b, rfl, b, D, ds, n' + 1, 12, rfl, bx.bump, by decide, fun e e0 e12 => ?_⟩
      refine ⟨rfl, _, rfl, ite2 (fun _ => ?_) (fun _ => ?_)⟩
      · refine ⟨.ref b, rfl, b, D, ds, n' + 1 + 1, 3, rfl, bx.bump.bump, by decide, fun g g0 g3 => ?_⟩
        refine ⟨20, g, rfl, rfl, ?_⟩
        have bx2 := bx.bump.bump.bump
        have sm2 := ((sm.trans bx.sm).trans bx.bump.sm).trans bx.bump.bump.sm
        have bu2 := ((bu.ts bx.tsb).ts bx.bump.tsb).ts bx.bump.bump.tsb
        have cc : 0 ≤ 20 - g ∧ 20 - g ≤ 20 := by omega
        obtain ⟨xs, hp, hxl⟩ := bu2.tup
        refine ⟨.ref p, rfl, _, rfl, _, _, _, rfl, rfl, (by omega), (by omega), (by show (0 + (i : Int)) < 6; omega), (by rw [show (0 + (i : Int)).toNat = i by omega]; exact abc_get i (by omega)), _, _, rfl, rfl, (by show 1 + 1 ≤ sizeLine; decide), _, rfl, .ref b, rfl, _, rfl, _, _, rfl, rfl, ?_⟩
        refine ⟨b, D, ds, _, _, rfl, bx2, by omega, fun z z0 zk => ?_⟩
        have bx3 := bx2.bump
        have sm3 := sm2.trans bx2.sm
        have bu3 := bu2.ts bx2.tsb
        have hp3 := bx2.tsb _ _ hp
        refine ⟨_, _, rfl, rfl, (by show 3 ≤ sizeLine; decide), fun r nr => ⟨by show 1 ≤ sizeLine; decide, fun t nt => ?_⟩⟩
        have sr := same_new (o := .tup [.str ((Str.ofString "b") ++ (⟨#[97 + i]⟩ : Str)), .int (20 - g), .int (z - 1)]) nr
        have st := same_new (o := .tup [.ref r]) nt
        have srt := sr.trans st
        have nrt : r ≠ t := ne_of_none upd_same nt
        have hr4 := st r _ upd_same
        refine ⟨p, t, xs, [.ref r], rfl, rfl, SqT.of (srt _ _ hp3), SqT.of upd_same, (by show xs.length + 1 ≤ sizeLine; exact small1000 (by omega)), fun e => ?_, (fun _ e => nomatch e), fun e _ u nu => ?_⟩
        · subst e
          refine ⟨_, _, t, B ++ [⟨(Str.ofString "b") ++ (⟨#[97 + i]⟩ : Str), 20 - g, z - 1⟩], _, rfl, sm3.trans (SmB.of srt), bx3.same srt, (bu3.same srt).snoc (srt _ _ hp3) upd_same hr4, by simp [hBl], wf.snoc (by show -1 ≤ z - 1; omega) (by show z - 1 < B.length; omega), each_snoc ea ⟨cc.1, cc.2, nm_ok i (by omega)⟩, ?_⟩
          exact (sm3.trans (SmB.of sr)).free (bx3.same sr).some nt
        · have su := same_new (o := .tup (xs ++ [.ref r])) nu
          have sall := srt.trans su
          refine ⟨_, _, u, B ++ [⟨(Str.ofString "b") ++ (⟨#[97 + i]⟩ : Str), 20 - g, z - 1⟩], _, rfl, sm3.trans (SmB.of sall), bx3.same sall, (bu3.same sall).snoc (sall _ _ hp3) upd_same (su _ _ hr4), by simp [hBl], wf.snoc (by show -1 ≤ z - 1; omega) (by show z - 1 < B.length; omega), each_snoc ea ⟨cc.1, cc.2, nm_ok i (by omega)⟩, ?_⟩
          exact (sm3.trans (SmB.of srt)).free (bx3.same srt).some nu
      · have bx2 := bx.bump.bump
        have sm2 := (sm.trans bx.sm).trans bx.bump.sm
        have bu2 := (bu.ts bx.tsb).ts bx.bump.tsb
        have cc : 0 ≤ c ∧ c ≤ 20 := by omega
        obtain ⟨xs, hp, hxl⟩ := bu2.tup
        refine ⟨.ref p, rfl, _, rfl, _, _, _, rfl, rfl, (by omega), (by omega), (by show (0 + (i : Int)) < 6; omega), (by rw [show (0 + (i : Int)).toNat = i by omega]; exact abc_get i (by omega)), _, _, rfl, rfl, (by show 1 + 1 ≤ sizeLine; decide), _, rfl, .ref b, rfl, _, rfl, _, _, rfl, rfl, ?_⟩
        refine ⟨b, D, ds, _, _, rfl, bx2, by omega, fun z z0 zk => ?_⟩
        have bx3 := bx2.bump
        have sm3 := sm2.trans bx2.sm
        have bu3 := bu2.ts bx2.tsb
        have hp3 := bx2.tsb _ _ hp
        refine ⟨_, _, rfl, rfl, (by show 3 ≤ sizeLine; decide), fun r nr => ⟨by show 1 ≤ sizeLine; decide, fun t nt => ?_⟩⟩
        have sr := same_new (o := .tup [.str ((Str.ofString "b") ++ (⟨#[97 + i]⟩ : Str)), .int (c), .int (z - 1)]) nr
        have st := same_new (o := .tup [.ref r]) nt
        have srt := sr.trans st
        have nrt : r ≠ t := ne_of_none upd_same nt
        have hr4 := st r _ upd_same
        refine ⟨p, t, xs, [.ref r], rfl, rfl, SqT.of (srt _ _ hp3), SqT.of upd_same, (by show xs.length + 1 ≤ sizeLine; exact small1000 (by omega)), fun e => ?_, (fun _ e => nomatch e), fun e _ u nu => ?_⟩
        · subst e
          refine ⟨_, _, t, B ++ [⟨(Str.ofString "b") ++ (⟨#[97 + i]⟩ : Str), c, z - 1⟩], _, rfl, sm3.trans (SmB.of srt), bx3.same srt, (bu3.same srt).snoc (srt _ _ hp3) upd_same hr4, by simp [hBl], wf.snoc (by show -1 ≤ z - 1; omega) (by show z - 1 < B.length; omega), each_snoc ea ⟨cc.1, cc.2, nm_ok i (by omega)⟩, ?_⟩
          exact (sm3.trans (SmB.of sr)).free (bx3.same sr).some nt
        · have su := same_new (o := .tup (xs ++ [.ref r])) nu
          have sall := srt.trans su
          refine ⟨_, _, u, B ++ [⟨(Str.ofString "b") ++ (⟨#[97 + i]⟩ : Str), c, z - 1⟩], _, rfl, sm3.trans (SmB.of sall), bx3.same sall, (bu3.same sall).snoc (sall _ _ hp3) upd_same (su _ _ hr4), by simp [hBl], wf.snoc (by show -1 ≤ z - 1; omega) (by show z - 1 < B.length; omega), each_snoc ea ⟨cc.1, cc.2, nm_ok i (by omega)⟩, ?_⟩
          exact (sm3.trans (SmB.of srt)).free (bx3.same srt).some nu
    · rintro σ H' ⟨y2, y3, p, B, n', rfl, sm, bx, bu, hBl, wf, ea, np⟩
      exact ⟨_, rfl, q H' p B n' ⟨wf, by omega, by omega, ea⟩ sm bx bu np⟩
end
end Fd

set_option Elab.async false
set_option linter.all false
set_option maxRecDepth 100000
set_option maxHeartbeats 2000000
namespace Fd
open PySem PySem.Spec PyProof.Rows L2 RZ
abbrev sLUsed : Stmt := topL 13
abbrev sLFits : Stmt := topL 14
theorem scLUsed : FnScope ["budgets", "faults", "units", "k", "j"] ["budgets", "faults"] (defScope sLUsed) := ⟨rfl, rfl, rfl, by decide +kernel, rfl, by decide +kernel, by decide +kernel⟩
theorem scLFits : FnScope ["budgets", "faults", "units", "k"] ["budgets", "faults"] (defScope sLFits) := ⟨rfl, rfl, rfl, by decide +kernel, rfl, by decide +kernel, by decide +kernel⟩
theorem ixS {X : Cx} {K : PySem.W.Frag} (h : X.K = K) : IxR X (rIx K) := h ▸ ix_seq
/-- ints in a tuple or in a list -/
def FAt (H : Hp) (a : Addr) (l : List Int) : Prop := H a = some (.tup (iv l)) ∨ H a = some (.lst (iv l))
theorem FAt.same {H H' : Hp} {a : Addr} {l : List Int} (h : FAt H a l) (s : Same H H') : FAt H' a l := h.imp (s _ _) (s _ _)
theorem FAt.ix {H : Hp} {a : Addr} {n : Nat} {f : Nat → Int} {K : PySem.W.Frag} {i : Nat} {Q : VK} (h : FAt H a (fl n f)) (hi : i < n) (q : Q (.int (f i)) H) : rIx K (.ref a) (.int (i : Nat)) H Q := by
  rcases h with h | h
  · exact .inr (.inl ⟨a, _, i, _, rfl, rfl, SqT.of h, atI_nat (iv_get hi), q⟩)
  · exact .inl ⟨a, _, i, _, rfl, rfl, SqL.of h, atI_nat (iv_get hi), q⟩
theorem inV_iv (k : Int) (l : List Int) : inV (.int k) (iv l) = decide (k ∈ l) := by
  rw [Bool.eq_iff_iff, decide_eq_true_iff]
  unfold inV
  rw [List.any_eq_true]
  constructor
  · rintro ⟨y, hy, e⟩
    obtain ⟨x, hx, rfl⟩ := List.mem_map.mp hy
    have e2 : x = k := by simpa [eqV] using e
    exact e2 ▸ hx
  · intro h
    exact ⟨.int k, List.mem_map.mpr ⟨k, h, rfl⟩, by simp [eqV]⟩
theorem flat_iv (l : List Int) : (iv l).all flatV = true := by
  rw [List.all_eq_true]
  intro y hy
  obtain ⟨x, _, rfl⟩ := List.mem_map.mp hy
  rfl
theorem ch_neg {B : List Bd} {f : Nat} {k : Int} (h : k < 0) : ch B f k = [] := by
  cases f with
  | zero => rfl
  | succ f => simp [ch, h]
section
variable {P : Program} {w : World} {K : PySem.W.Frag} {mg : Str → Option Value} {base : Heap}
/-! ### a path -/
def spPath : Sp := fun vs H Q _ => ∃ (p : Addr) (B : List Bd) (k : Nat), vs = [.ref p, .int k] ∧ BudAt H p B ∧ WF B ∧ k < B.length ∧ B.length ≤ 1000 ∧
  ∀ H' l, Same H H' → H l = none → H' l = some (.lst (iv (full B k))) → Q (.ref l) H'
theorem ok_path {f : Addr} {fd : FuncData} (F : Fun K "_law_path" "_law_path" sPath f fd) (mR : mg "range" = none) (mLen : mg "len" = none) : FnOk P w K mg base CX0 1 f fd ["budgets", "k"] spPath := by
  refine F.ok scPath (fun vs H Q E h => ?_) (fun cdv A outer s H vs Q E hr h => ?_)
  · obtain ⟨p, B, k, rfl, _⟩ := h
    rfl
  · obtain ⟨p, B, k, rfl, hB, hW, hk, hn, q⟩ := h
    refine ⟨_, pss_cons (ps_set (i := 2) scPath.nd rfl (.inl rfl) (pe_lst pa_nil))
      (pss_cons (ps_for PassesOwn.never rfl (pi_range1 (by rfl) mR (pa_cons (pe_callB call_len_seq (by rfl) mLen PySem.boot_len (pa_cons (pv 0) pa_nil)) pa_nil)) (pg_name (i := 3) scPath.nd rfl (.inl rfl))
        (pss_one (ps_if (pt_cmpR op_ge (pv 1) pe_int (nomark _))
          (pss_cons (ps_expr (pe_bm PySem.F.plainAttrs_list PySem.F.slot_list_append PySem.F.type_list_append mt_append (pv 2) (pa_cons (pv 1) pa_nil)))
            (pss_one (ps_set (i := 1) scPath.nd rfl (.inl rfl) (pe_ix ix_tup (pe_ix ix_tup (pv 0) (pv 1) (fun _ _ => rfl)) pe_int (fun _ _ => rfl))))) pss_nil)))
      (pss_one (ps_ret (pv 2)))), ?_⟩
    refine ⟨Nat.zero_le _, fun l nl => ?_⟩
    have s1 := same_new (o := .lst []) nl
    obtain ⟨xs, h1, hl⟩ := (hB.same s1).tup
    refine ⟨.ref p, rfl, p, xs, rfl, .inr (SqT.of h1), xs.length, rfl, by omega, by omega, ?_⟩
    rw [Int.toNat_natCast, hl]
    refine for_range (fun i σ H' => ∃ (y3 : Option V) (c : Int) (acc : List Int), σ = [some (.ref p), some (.int c), some (.ref l), y3] ∧ Same H H' ∧ H' l = some (.lst (iv acc)) ∧ acc ++ ch B (B.length - i) c = full B k ∧ c < B.length ∧ acc.length ≤ i)
      ⟨none, k, [], rfl, s1, upd_same, ch_full hW (by omega), by omega, Nat.zero_le _⟩ ?_ ?_
    · rintro i σ H' hi ⟨y3, c, acc, rfl, sm, hl', hc, c1, ha⟩
      obtain ⟨m, hm⟩ : ∃ m, B.length - i = m + 1 := ⟨B.length - i - 1, by omega⟩
      have hm2 : B.length - (i + 1) = m := by omega
      rw [hm] at hc
      refine ⟨_, rfl, _, _, rfl, rfl, _, rfl, ite2 (fun hge => ?_) (fun hge => ?_)⟩
      · have c0 : 0 ≤ c := of_decide_eq_true hge
        obtain ⟨e, rfl⟩ : ∃ e : Nat, c = e := ⟨c.toNat, by omega⟩
        have he : e < B.length := by omega
        refine ⟨.ref l, rfl, .inl ⟨rfl, _, SqL.of hl'⟩, _, rfl, l, _, _, rfl, rfl, hl', ?_, ?_⟩
        · rw [List.length_map]; exact small1000 (by omega)
        have sm2 := same_upd' (p := l) (o := .lst (iv acc ++ [.int e])) sm nl
        obtain ⟨xs2, r2, g1, gl, g2, _, g3⟩ := (hB.same sm2).at he
        refine ⟨.ref p, rfl, .int e, rfl, p, xs2, e, .ref r2, rfl, rfl, SqT.of g1, g2, r2, _, 2, .int B[e].par, rfl, rfl, SqT.of g3, rfl, ?_⟩
        rw [← parAt_get he]
        have hp := parAt_lt hW e
        refine ⟨_, parAt B e, acc ++ [(e : Int)], rfl, sm2, ?_, ?_, by omega, ?_⟩
        · rw [upd_same, iv_snoc]
        · rw [hm2, ← hc, List.append_assoc]
          simp only [ch, if_neg (show ¬ (e : Int) < 0 by omega), Int.toNat_natCast]
          rfl
        · rw [List.length_append, List.length_singleton]; omega
      · have cn : c < 0 := by
          by_cases z : 0 ≤ c
          · exact absurd (decide_eq_true z) hge
          · omega
        refine ⟨_, c, acc, rfl, sm, hl', ?_, c1, by omega⟩
        rw [ch_neg cn] at hc ⊢
        exact hc
    · rintro σ H' ⟨y3, c, acc, rfl, sm, hl', hc, c1, ha⟩
      rw [Nat.sub_self] at hc
      have hc' : acc = full B k := by rw [← hc]; simp [ch]
      rw [hc'] at hl'
      exact ⟨_, rfl, q H' l sm nl hl'⟩
/-! ### used, by paths -/
def spLUsed : Sp := fun vs H Q _ => ∃ (p a : Addr) (B : List Bd) (f : Nat → Int), vs = [.ref p, .ref a] ∧ BudAt H p B ∧ WF B ∧ B.length ≤ 1000 ∧ FAt H a (fl B.length f) ∧
  ∀ H' l, Same H H' → H l = none → H' l = some (.tup (iv (usedL B f))) → Q (.ref l) H'
theorem ok_lused {f fP : Addr} {fd fdP : FuncData} (F : Fun K "_law_used" "_law_used" sLUsed f fd) (FP : Fun K "_law_path" "_law_path" sPath fP fdP) (GP : FnOk P w K mg base CX0 1 fP fdP ["budgets", "k"] spPath)
    (bP : Binds K fdP ["budgets", "k"] []) (gP : mg "_law_path" = some (.ref fP)) (mR : mg "range" = none) (mLen : mg "len" = none) (mS : mg "sum" = none) (mT : mg "tuple" = none) : FnOk P w K mg base CX0 2 f fd ["budgets", "faults"] spLUsed := by
  refine F.ok scLUsed (fun vs H Q E h => ?_) (fun cdv A outer s H vs Q E hr h => ?_)
  · obtain ⟨p, a, B, f, rfl, _⟩ := h
    rfl
  · obtain ⟨p, a, B, f, rfl, hB, hW, hn, ha, q⟩ := h
    refine ⟨_, pss_cons (ps_set (i := 2) scLUsed.nd rfl (.inl rfl) (pe_lst pa_nil))
      (pss_cons (ps_for PassesOwn.never rfl (pi_range1 (by rfl) mR (pa_cons (pe_callB call_len_seq (by rfl) mLen PySem.boot_len (pa_cons (pv 0) pa_nil)) pa_nil)) (pg_name (i := 3) scLUsed.nd rfl (.inr rfl))
        (pss_one (ps_expr (pe_bm PySem.F.plainAttrs_list PySem.F.slot_list_append PySem.F.type_list_append mt_append (pv 2) (pa_cons
          (pe_callB (cr_sum rfl) (by rfl) mS (by decide +kernel) (pa_cons
            (pe_lc (own := [("j", 4)]) (g := gName 4) (tt := tTest (tOp (rIn K false) (tVar 3) (tCall spPath [] E0 (tCons (tVar 0) (tCons (tVar 4) tNil))))) (te := tOp (rIx K) (tVar 1) (tVar 4)) rfl scLUsed.nd
              (pi_range1 (by rfl) mR (pa_cons (pe_callB call_len_seq (by rfl) mLen PySem.boot_len (pa_cons (pv 0) pa_nil)) pa_nil))
              (blkOk_by (N := ["budgets", "faults", "units", "k", "j"]) (sc := defScope sLUsed) (by decide +kernel))
              (fun _ _ _ _ _ => pg_name (i := 4) scLUsed.nd rfl (.inl rfl))
              (fun _ _ _ _ _ => pts_one (pt_cmpR (inSeq (K := K) rfl) (pv 3) (pe_call GP hr (by rfl) gP FP.kp bP .nil pass0 (pa_cons (pv 0) (pa_cons (pv 4) pa_nil))) (by with_unfolding_all rfl)))
              (fun _ _ _ _ _ => pe_ix (ixS (K := K) rfl) (pv 1) (pv 4) (fun _ _ => rfl)))
            pa_nil)) pa_nil)))))
      (pss_one (ps_ret (pe_tupleOf (by rfl) mT (pv 2))))), ?_⟩
    refine ⟨Nat.zero_le _, fun l nl => ?_⟩
    have s1 := same_new (o := .lst []) nl
    obtain ⟨xs, h1, hl⟩ := (hB.same s1).tup
    refine ⟨.ref p, rfl, p, xs, rfl, .inr (SqT.of h1), xs.length, rfl, by omega, by omega, ?_⟩
    rw [Int.toNat_natCast, hl]
    refine for_range (fun i σ H' => ∃ (y3 : Option V), σ = [some (.ref p), some (.ref a), some (.ref l), y3, none] ∧ Same H H' ∧ H' l = some (.lst (iv (fl i (U B f)))))
      ⟨none, rfl, s1, upd_same⟩ ?_ ?_
    · rintro i σ H' hi ⟨y3, rfl, sm, hl'⟩
      obtain ⟨xs2, g1, gl⟩ := (hB.same sm).tup
      rw [show (0 : Int) + (i : Int) = ((i : Nat) : Int) by omega]
      refine ⟨.ref l, rfl, .inl ⟨rfl, _, SqL.of hl'⟩, .ref p, rfl, p, xs2, rfl, .inr (SqT.of g1), xs2.length, rfl, by omega, by omega, fun D nD => ?_⟩
      rw [Int.toNat_natCast, gl]
      have s2 := same_new (o := .lst []) nD
      refine lc_range (fun j H2 => Same H' H2 ∧ H2 D = some (.lst (iv (((List.range j).filter (fun (c : Nat) => decide ((i : Int) ∈ full B (c : Int)))).map f)))) ⟨s2, upd_same⟩ ?_ ?_
      · rintro j H2 hj ⟨sm2, hD⟩
        rw [show (0 : Int) + (j : Int) = ((j : Nat) : Int) by omega]
        refine ⟨rfl, .int i, rfl, .ref p, rfl, .int j, rfl, p, B, j, rfl, hB.same (sm.trans sm2), hW, hj, hn, fun H3 u s3 nu hu => ?_⟩
        refine ⟨u, _, rfl, .inl (SqL.of hu), rfl, flat_iv _, _, rfl, ?_⟩
        rw [if_neg Bool.false_ne_true, inV_iv]
        have sm3 := sm2.trans s3
        refine ite2 (fun hin => ?_) (fun hin => ?_)
        · refine ⟨.ref a, rfl, .int j, rfl, (ha.same (sm.trans sm3)).ix hj ⟨_, s3 _ _ hD, ?_, same_upd' sm3 nD, ?_⟩⟩
          · rw [List.length_map, List.length_map]
            refine small1000 (Nat.le_trans (List.length_filter_le _ _) ?_)
            rw [List.length_range]; omega
          · rw [upd_same, List.range_succ, List.filter_append, List.map_append]
            simp [hin, iv]
        · refine ⟨sm3, ?_⟩
          rw [s3 _ _ hD, List.range_succ, List.filter_append, List.map_append]
          simp [hin, iv]
      · rintro H2 ⟨sm2, hD⟩
        refine ⟨D, _, rfl, SqL.of hD, ?_⟩
        rw [sum_filter]
        refine ⟨l, _, _, rfl, rfl, sm2 _ _ hl', ?_, ?_⟩
        · rw [iv_len]; exact small1000 (by omega)
        · refine ⟨_, rfl, same_upd' (sm.trans sm2) nl, ?_⟩
          rw [upd_same, fl_succ, iv_snoc]
          congr 5
          unfold U
          refine sm_congr fun c _ => ?_
          simp only [decide_eq_true_iff]
    · rintro σ H' ⟨y3, rfl, sm, hl'⟩
      rw [← usedL_fl] at hl'
      refine ⟨.ref l, rfl, .inl ⟨l, _, rfl, SqL.of hl', fun t nt => ?_⟩⟩
      exact q _ t (sm.trans (same_new nt)) (sm.free nt) upd_same
/-! ### fits -/
theorem fits_len (B : List Bd) (f : Nat → Int) : decide (V.int ((((List.range B.length).filter (fun c => decide (capAt B c < U B f c))).map (fun c => V.int (c : Nat))).length : Nat) = V.int 0) = decide (fitsP B f) := by
  rw [Bool.eq_iff_iff, decide_eq_true_iff, decide_eq_true_iff]
  constructor
  · intro e k hk
    injection e with e
    have e2 : ((List.range B.length).filter (fun c => decide (capAt B c < U B f c))) = [] := by
      rw [List.length_map] at e
      exact List.length_eq_zero_iff.mp (by omega)
    rw [List.filter_eq_nil_iff] at e2
    have := e2 k (List.mem_range.mpr hk)
    simp at this
    exact this
  · intro h
    have e2 : ((List.range B.length).filter (fun c => decide (capAt B c < U B f c))) = [] := by
      rw [List.filter_eq_nil_iff]
      intro c hc
      have := h c (List.mem_range.mp hc)
      simp
      exact this
    rw [e2]; rfl
def spLFits : Sp := fun vs H Q _ => ∃ (p a : Addr) (B : List Bd) (f : Nat → Int), vs = [.ref p, .ref a] ∧ BudAt H p B ∧ WF B ∧ B.length ≤ 1000 ∧ FAt H a (fl B.length f) ∧
  ∀ H', Same H H' → Q (.bl (decide (fitsP B f))) H'
theorem ok_lfits {f fU : Addr} {fd fdU : FuncData} (F : Fun K "_law_fits" "_law_fits" sLFits f fd) (FU : Fun K "_law_used" "_law_used" sLUsed fU fdU) (GU : FnOk P w K mg base CX0 2 fU fdU ["budgets", "faults"] spLUsed)
    (bU : Binds K fdU ["budgets", "faults"] []) (gU : mg "_law_used" = some (.ref fU)) (mR : mg "range" = none) (mLen : mg "len" = none) : FnOk P w K mg base CX0 3 f fd ["budgets", "faults"] spLFits := by
  refine F.ok scLFits (fun vs H Q E h => ?_) (fun cdv A outer s H vs Q E hr h => ?_)
  · obtain ⟨p, a, B, f, rfl, _⟩ := h
    rfl
  · obtain ⟨p, a, B, f, rfl, hB, hW, hn, ha, q⟩ := h
    refine ⟨_, pss_cons (ps_set (i := 2) scLFits.nd rfl (.inr rfl) (pe_call GU hr (by rfl) gU FU.kp bU .nil pass0 (pa_cons (pv 0) (pa_cons (pv 1) pa_nil))))
      (pss_one (ps_ret (pe_cmpR op_eq (pe_callB call_len_seq (by rfl) mLen PySem.boot_len (pa_cons
        (pe_lc (own := [("k", 3)]) (g := gName 3) (tt := tTest (tOp (rI0 fun i j => .bl (decide (j < i))) (tOp (rIxT K) (tVar 2) (tVar 3)) (tOp (rIxT K) (tOp (rIxT K) (tVar 0) (tVar 3)) (tC (.int 1))))) (te := tVar 3) rfl scLFits.nd
          (pi_range1 (by rfl) mR (pa_cons (pe_callB call_len_seq (by rfl) mLen PySem.boot_len (pa_cons (pv 0) pa_nil)) pa_nil))
          (blkOk_by (N := ["budgets", "faults", "units", "k"]) (sc := defScope sLFits) (by decide +kernel))
          (fun _ _ _ _ _ => pg_name (i := 3) scLFits.nd rfl (.inl rfl))
          (fun _ _ _ _ _ => pts_one (pt_cmpR op_gt (pe_ix (ixT (K := K) rfl) (pv 2) (pv 3) (fun _ _ => rfl)) (pe_ix (ixT (K := K) rfl) (pe_ix (ixT (K := K) rfl) (pv 0) (pv 3) (fun _ _ => rfl)) pe_int (fun _ _ => rfl)) (nomark _)))
          (fun _ _ _ _ _ => pv 3)) pa_nil)) pe_int (nomark _)))), ?_⟩
    refine ⟨.ref p, rfl, .ref a, rfl, p, a, B, f, rfl, hB, hW, hn, ha, fun H1 u s1 nu hu => ?_⟩
    obtain ⟨xs, h1, hl⟩ := (hB.same s1).tup
    refine ⟨.ref p, rfl, p, xs, rfl, .inr (SqT.of h1), xs.length, rfl, by omega, by omega, fun D nD => ?_⟩
    rw [Int.toNat_natCast, hl]
    have s2 := same_new (o := .lst []) nD
    refine lc_range (fun j H2 => Same H1 H2 ∧ H2 D = some (.lst (((List.range j).filter (fun (c : Nat) => decide (capAt B c < U B f c))).map (fun (c : Nat) => V.int (c : Nat))))) ⟨s2, upd_same⟩ ?_ ?_
    · rintro j H2 hj ⟨sm2, hD⟩
      rw [show (0 : Int) + (j : Int) = ((j : Nat) : Int) by omega]
      obtain ⟨xs2, r2, g1, gl, g2, _, g3⟩ := (hB.same (s1.trans sm2)).at hj
      refine ⟨rfl, .ref u, rfl, .int j, rfl, u, _, j, .int (U B f j), rfl, rfl, SqT.of (sm2 _ _ hu), atI_nat (by rw [usedL_fl, iv_get hj]), .ref p, rfl, .int j, rfl, p, xs2, j, .ref r2, rfl, rfl, SqT.of g1, g2, r2, _, 1, .int B[j].cap, rfl, rfl, SqT.of g3, rfl, _, _, rfl, rfl, _, rfl, ?_⟩
      rw [← capAt_get hj]
      refine ite2 (fun hin => ?_) (fun hin => ?_)
      · have hin' := of_decide_eq_true hin
        refine ⟨.int j, rfl, _, hD, ?_, same_upd' sm2 nD, ?_⟩
        · rw [List.length_map]
          refine small1000 (Nat.le_trans (List.length_filter_le _ _) ?_)
          rw [List.length_range]; omega
        · rw [upd_same, List.range_succ, List.filter_append, List.map_append]
          simp [hin']
      · have hin' : ¬ capAt B j < U B f j := fun z => hin (decide_eq_true z)
        refine ⟨sm2, ?_⟩
        rw [hD, List.range_succ, List.filter_append, List.map_append]
        simp [hin']
    · rintro H2 ⟨sm2, hD⟩
      refine ⟨D, _, rfl, .inl (SqL.of hD), rfl, ?_⟩
      rw [fits_len]
      exact q H2 (s1.trans sm2)
end
end Fd

set_option Elab.async false
set_option linter.all false
set_option maxRecDepth 100000
set_option maxHeartbeats 4000000
namespace Fd
open PySem PySem.Spec PyProof.Rows L2 RZ
abbrev sLaw : Stmt := topL 15
theorem scLaw : FnScope ["script", "box", "budgets", "many", "k", "turn", "faults", "units", "left", "due", "other", "both"] ["script"] (defScope sLaw) := ⟨rfl, rfl, rfl, by decide +kernel, rfl, by decide +kernel, by decide +kernel⟩
theorem SmB.ts {b D : Addr} {ds : List Int} {n : Nat} {H H' : Hp} (s : SmB b H H') (h : BoxAt H b D ds n) : Ts H H' := fun c xs e => s c _ (fun z => by subst z; rw [h.1] at e; cases e) e
theorem SmB.newAt {b p : Addr} {H H' : Hp} {o : HO} (s : SmB b H H') (h : H p = none) : SmB b H (L2.upd H' p o) := fun c u n e => by
  rw [upd_ne (ne_of_none e h)]; exact s c u n e
theorem BoxAt.other {H : Hp} {b D p : Addr} {ds : List Int} {n : Nat} {o : HO} (h : BoxAt H b D ds n) (n1 : p ≠ b) (n2 : p ≠ D) : BoxAt (upd H p o) b D ds n := ⟨by rw [upd_ne n1.symm]; exact h.1, by rw [upd_ne n2.symm]; exact h.2⟩
theorem cut1 (xs : List V) : cutV xs (some 1) none = xs.drop 1 := by
  unfold cutV
  rw [show HT.sIx xs.length 0 (some 1) = min 1 xs.length from HT.sIx_nat xs.length 0 1, HT.sIx_none]
  cases xs with
  | nil => rfl
  | cons x r =>
    have e : min 1 (x :: r).length = 1 := by simp
    rw [e]
    simp
theorem remB_par (B : List Bd) (f : Nat → Int) (k : Nat) : parAt (remB B f) k = parAt B k := by
  unfold parAt remB
  rw [List.getElem?_mapIdx]
  cases B[k]? <;> rfl
theorem remB_cap {B : List Bd} {f : Nat → Int} {k : Nat} (hk : k < B.length) : capAt (remB B f) k = capAt B k - U B f k := by
  unfold capAt remB
  rw [List.getElem?_mapIdx, List.getElem?_eq_getElem hk]
  rfl
theorem ch_par {B B' : List Bd} (h : ∀ k, parAt B k = parAt B' k) : ∀ (f : Nat) (k : Int), ch B f k = ch B' f k
  | 0, _ => rfl
  | f + 1, k => by simp only [ch, h, ch_par h f]
theorem full_par {B B' : List Bd} (h : ∀ k, parAt B k = parAt B' k) (k : Int) : full B k = full B' k := ch_par h _ k
theorem remB_U (B : List Bd) (f g : Nat → Int) (k : Nat) : U (remB B f) g k = U B g k := by
  unfold U
  rw [remB_len]
  exact sm_congr fun j _ => by rw [full_par (remB_par B f)]
theorem remB_wf {B : List Bd} (h : WF B) (f : Nat → Int) : WF (remB B f) := fun k b e => by
  obtain ⟨hk, rfl⟩ := remB_get e
  have q := h k B[k] (List.getElem?_eq_getElem hk)
  exact q
theorem remB_fits (B : List Bd) (f g : Nat → Int) : fitsP (remB B f) g ↔ fitsP B (fun j => f j + g j) := by
  unfold fitsP
  rw [remB_len]
  refine ⟨fun h k hk => ?_, fun h k hk => ?_⟩
  · have := h k hk
    rw [remB_U, remB_cap hk] at this
    rw [U_add]; omega
  · have := h k hk
    rw [U_add] at this
    rw [remB_U, remB_cap hk]; omega
theorem nat_small {x c : Int} (h0 : -c ≤ x) (h1 : x ≤ c) (hc : c ≤ 100000) : x.natAbs < 10 ^ 12 := by
  have e : (10 : Nat) ^ 12 = 1000000000000 := by decide
  omega
theorem ch_length (B : List Bd) : ∀ (f : Nat) (k : Int), (ch B f k).length ≤ f
  | 0, _ => Nat.zero_le _
  | f + 1, k => by
    simp only [ch]
    split
    · exact Nat.zero_le _
    · rw [List.length_cons]
      exact Nat.succ_le_succ (ch_length B f _)
theorem full_small {B : List Bd} (h : WF B) {k : Int} (hk : k ≤ 1000) : smallD (.list ((full B k).map PyData.int)) := by
  refine small_list (fun x hx => ?_) (Nat.le_trans (ch_length B _ k) (by omega))
  have q := full_le h hx
  exact nat_small (c := 1000) (by omega) (by omega) (by omega)
theorem fl_small {n : Nat} {f : Nat → Int} (hn : n ≤ 1000) (h : ∀ j, j < n → -1000 ≤ f j ∧ f j ≤ 1000) : smallD (.tuple ((fl n f).map PyData.int)) := by
  refine small_tup (fun x hx => ?_) (by rw [fl_len]; omega)
  obtain ⟨j, hj, rfl⟩ := List.mem_map.mp hx
  have q := h j (List.mem_range.mp hj)
  exact nat_small (c := 1000) (by omega) (by omega) (by omega)
theorem remB_ok {B : List Bd} {f : Nat → Int} (hB : OkB B) (hf : ∀ j, j < B.length → 0 ≤ f j ∧ f j ≤ 6) : ∀ b ∈ remB B f, bdOk b := by
  intro b hb
  obtain ⟨k, hk⟩ := List.mem_iff_getElem?.mp hb
  obtain ⟨hi, rfl⟩ := remB_get hk
  have e := hB.each k B[k] (List.getElem?_eq_getElem hi)
  have w := hB.wf k B[k] (List.getElem?_eq_getElem hi)
  have u := U_bound (by omega) hf k
  have h5 := hB.five
  refine ⟨e.2.2, ?_, ?_⟩
  · exact nat_small (c := 1000) (by show -1000 ≤ B[k].cap - U B f k; omega) (by show B[k].cap - U B f k ≤ 1000; omega) (by omega)
  · exact nat_small (c := 1000) (by show -1000 ≤ B[k].par; omega) (by show B[k].par ≤ 1000; omega) (by omega)
section
variable {P : Program} {w : World} {K : PySem.W.Frag} {mg : Str → Option Value} {base : Heap}
def spLaw (K : PySem.W.Frag) : Sp := fun vs H Q _ => ∃ (a : Addr) (ns : List Int), vs = [.ref a] ∧ SqL K H a (iv ns) ∧ ns.length ≤ 63 ∧ ∀ H', Q (.bl true) H'
/-- what stands between the turns of the law -/
structure Stay (H1 H' : Hp) (b D : Addr) (ds : List Int) : Prop where
  sm : SmB b H1 H'
  bx : ∃ n, BoxAt H' b D ds n
theorem ok_law {f fDi fD fS fB fP fLU fF fA fU fW fR : Addr} {fd fdDi fdD fdS fdB fdP fdLU fdF fdA fdU fdW fdR : FuncData} (F : Fun K "law" "law" sLaw f fd)
    (FDi : Fun K "_law_digits" "_law_digits" sDigits fDi fdDi) (GDi : FnOk P w K mg base CX0 2 fDi fdDi ["script", "first", "last"] (spDigits K)) (bDi : Binds K fdDi ["script", "first", "last"] []) (gDi : mg "_law_digits" = some (.ref fDi))
    (FD : Fun K "_law_draw" "_law_draw" sDraw fD fdD) (GD : FnOk P w K mg base CX0 1 fD fdD ["box", "many"] spDraw) (bD : Binds K fdD ["box", "many"] []) (gD : mg "_law_draw" = some (.ref fD))
    (FS : Fun K "_law_same" "_law_same" sSame fS fdS) (GS : GOk P w K mg base 1 fS fdS ["actual", "due"] (spSame K)) (bS : Binds K fdS ["actual", "due"] []) (gS : mg "_law_same" = some (.ref fS))
    (FB : Fun K "_law_budgets" "_law_budgets" sBudgets fB fdB) (GB : FnOk P w K mg base CX0 2 fB fdB ["box"] spBudgets) (bB : Binds K fdB ["box"] []) (gB : mg "_law_budgets" = some (.ref fB))
    (FP : Fun K "_law_path" "_law_path" sPath fP fdP) (GP : FnOk P w K mg base CX0 1 fP fdP ["budgets", "k"] spPath) (bP : Binds K fdP ["budgets", "k"] []) (gP : mg "_law_path" = some (.ref fP))
    (FLU : Fun K "_law_used" "_law_used" sLUsed fLU fdLU) (GLU : FnOk P w K mg base CX0 2 fLU fdLU ["budgets", "faults"] spLUsed) (bLU : Binds K fdLU ["budgets", "faults"] []) (gLU : mg "_law_used" = some (.ref fLU))
    (FF : Fun K "_law_fits" "_law_fits" sLFits fF fdF) (GF : FnOk P w K mg base CX0 3 fF fdF ["budgets", "faults"] spLFits) (bF : Binds K fdF ["budgets", "faults"] []) (gF : mg "_law_fits" = some (.ref fF))
    (FA : Fun K "above" "above" sAbove fA fdA) (GA : FnOk P w K mg base CX0 1 fA fdA ["budgets", "k"] spAbove) (bA : Binds K fdA ["budgets", "k"] []) (gA : mg "above" = some (.ref fA))
    (FU : Fun K "used" "used" sUsed fU fdU) (GU : FnOk P w K mg base CX0 1 fU fdU ["budgets", "faults"] spUsed) (bU : Binds K fdU ["budgets", "faults"] []) (gU : mg "used" = some (.ref fU))
    (FW : Fun K "is_within" "is_within" sWithin fW fdW) (GW : FnOk P w K mg base CX0 2 fW fdW ["budgets", "faults"] spWithin) (bW : Binds K fdW ["budgets", "faults"] []) (gW : mg "is_within" = some (.ref fW))
    (FR : Fun K "remaining" "remaining" sRemain fR fdR) (GR : FnOk P w K mg base CX0 2 fR fdR ["budgets", "faults"] spRemain) (bR : Binds K fdR ["budgets", "faults"] []) (gR : mg "remaining" = some (.ref fR))
    (mR : mg "range" = none) (mLen : mg "len" = none) (mT : mg "tuple" = none) (mI : mg "int" = none) : GOk P w K mg base 4 f fd ["script"] (spLaw K) := by
  refine gok_of F scLaw (fun vs H Q E h => ?_) (fun cdv A outer s H vs Q E hg hr h => ?_)
  · obtain ⟨a, ns, rfl, _⟩ := h
    rfl
  · obtain ⟨a, ns, rfl, hS, hlen, q⟩ := h
    have hr2 : Room 2 _ := hr.mono (by decide)
    have hr1 : Room 1 _ := hr.mono (by decide)
    refine ⟨_, (pss_cons (ps_set (i := 1) scLaw.nd rfl (.inr rfl) (pe_lst (pa_cons (pe_call GDi hr2 (by rfl) gDi FDi.kp bDi .nil pass0 (pa_cons (pv 0) (pa_cons pe_int (pa_cons pe_int pa_nil)))) (pa_cons pe_int pa_nil))))
      (pss_cons (ps_set (i := 2) scLaw.nd rfl (.inr rfl) (pe_call GB hr2 (by rfl) gB FB.kp bB .nil pass0 (pa_cons (pv 1) pa_nil)))
      (pss_cons (ps_set (i := 3) scLaw.nd rfl (.inl rfl) (pe_callB call_len_seq (by rfl) mLen PySem.boot_len (pa_cons (pv 2) pa_nil)))
      (pss_cons (ps_for PassesOwn.never rfl (pi_range1 (by rfl) mR (pa_cons (pv 3) pa_nil)) (pg_name (i := 4) scLaw.nd rfl (.inl rfl)) (pss_one (ps_if (pt_not (pt_val (pe_callG GS hg hr1 (by rfl) gS FS.kp bS (pa_cons (pe_call GA hr1 (by rfl) gA FA.kp bA .nil pass0 (pa_cons (pv 2) (pa_cons (pv 4) pa_nil))) (pa_cons (pe_slice sl_list (pe_call GP hr1 (by rfl) gP FP.kp bP .nil pass0 (pa_cons (pv 2) (pa_cons (pv 4) pa_nil))) (po_some pe_int) po_none) pa_nil))))) (pss_one (ps_ret pe_bl)) pss_nil)))
      (pss_cons (ps_for PassesOwn.never rfl (pi_range1 (by rfl) mR (pa_cons pe_int pa_nil)) (pg_name (i := 5) scLaw.nd rfl (.inl rfl)) (pss_cons (ps_set (i := 6) scLaw.nd rfl (.inr rfl) (pe_tupleOf (by rfl) mT (pe_lc (own := [("k", 4)]) (g := gName 4) (tt := tYes) (te := tOp (rI CMul fun i j => .int (i * j)) (tCall spDraw [] E0 (tCons (tVar 1) (tCons (tC (.int 7)) tNil))) (tCB (fun xs H Q => (∃ i, xs = [V.int i] ∧ Q (.int i) H) ∨ ∃ k, xs = [V.bl k] ∧ Q (.int (if k then 1 else 0)) H) (tCons (tOp rEq (tCall spDraw [] E0 (tCons (tVar 1) (tCons (tC (.int 3)) tNil))) (tC (.int 0))) tNil))) rfl scLaw.nd (pi_range1 (by rfl) mR (pa_cons (pv 3) pa_nil))
          (blkOk_by (N := ["script", "box", "budgets", "many", "k", "turn", "faults", "units", "left", "due", "other", "both"]) (sc := defScope sLaw) (by decide +kernel)) (fun _ _ _ _ _ => pg_name (i := 4) scLaw.nd rfl (.inl rfl)) (fun _ _ _ _ _ => pts_nil) (fun _ _ _ _ _ => pe_op op_mul (pe_call GD hr1 (by rfl) gD FD.kp bD .nil pass0 (pa_cons (pv 1) (pa_cons pe_int pa_nil))) (pe_callTy call_int1 (by rfl) mI (by decide +kernel) (pa_cons (pe_cmpR op_eq (pe_call GD hr1 (by rfl) gD FD.kp bD .nil pass0 (pa_cons (pv 1) (pa_cons pe_int pa_nil))) pe_int (nomark _)) pa_nil))))))
      (pss_cons (ps_if (pt_not (pt_val (pe_callG GS hg hr1 (by rfl) gS FS.kp bS (pa_cons (pe_call GU hr1 (by rfl) gU FU.kp bU .nil pass0 (pa_cons (pv 2) (pa_cons (pv 6) pa_nil))) (pa_cons (pe_call GLU hr2 (by rfl) gLU FLU.kp bLU .nil pass0 (pa_cons (pv 2) (pa_cons (pv 6) pa_nil))) pa_nil))))) (pss_one (ps_ret pe_bl)) pss_nil)
      (pss_cons (ps_if (pt_not (pt_val (pe_callG GS hg hr1 (by rfl) gS FS.kp bS (pa_cons (pe_call GW hr2 (by rfl) gW FW.kp bW .nil pass0 (pa_cons (pv 2) (pa_cons (pv 6) pa_nil))) (pa_cons (pe_call GF hr (by rfl) gF FF.kp bF .nil pass0 (pa_cons (pv 2) (pa_cons (pv 6) pa_nil))) pa_nil))))) (pss_one (ps_ret pe_bl)) pss_nil)
      (pss_one (ps_if (pt_val (pe_call GF hr (by rfl) gF FF.kp bF .nil pass0 (pa_cons (pv 2) (pa_cons (pv 6) pa_nil)))) (pss_cons (ps_set (i := 7) scLaw.nd rfl (.inr rfl) (pe_call GLU hr2 (by rfl) gLU FLU.kp bLU .nil pass0 (pa_cons (pv 2) (pa_cons (pv 6) pa_nil))))
      (pss_cons (ps_set (i := 8) scLaw.nd rfl (.inl rfl) (pe_call GR hr2 (by rfl) gR FR.kp bR .nil pass0 (pa_cons (pv 2) (pa_cons (pv 6) pa_nil))))
      (pss_cons (ps_set (i := 9) scLaw.nd rfl (.inl rfl) (pe_tupleOf (by rfl) mT (pe_lc (own := [("k", 4)]) (g := gName 4) (tt := tYes) (te := tTup (tCons (tOp (rIxT K) (tOp (rIxT K) (tVar 2) (tVar 4)) (tC (.int 0))) (tCons (tOp (rI0 fun i j => .int (i - j)) (tOp (rIxT K) (tOp (rIxT K) (tVar 2) (tVar 4)) (tC (.int 1))) (tOp (rIxT K) (tVar 7) (tVar 4))) (tCons (tOp (rIxT K) (tOp (rIxT K) (tVar 2) (tVar 4)) (tC (.int 2))) tNil)))) rfl scLaw.nd (pi_range1 (by rfl) mR (pa_cons (pv 3) pa_nil))
          (blkOk_by (N := ["script", "box", "budgets", "many", "k", "turn", "faults", "units", "left", "due", "other", "both"]) (sc := defScope sLaw) (by decide +kernel)) (fun _ _ _ _ _ => pg_name (i := 4) scLaw.nd rfl (.inl rfl)) (fun _ _ _ _ _ => pts_nil) (fun _ _ _ _ _ => pe_tup (pa_cons (pe_ix (ixT (K := K) rfl) (pe_ix (ixT (K := K) rfl) (pv 2) (pv 4) (fun _ _ => rfl)) pe_int (fun _ _ => rfl)) (pa_cons (pe_op op_sub (pe_ix (ixT (K := K) rfl) (pe_ix (ixT (K := K) rfl) (pv 2) (pv 4) (fun _ _ => rfl)) pe_int (fun _ _ => rfl)) (pe_ix (ixT (K := K) rfl) (pv 7) (pv 4) (fun _ _ => rfl))) (pa_cons (pe_ix (ixT (K := K) rfl) (pe_ix (ixT (K := K) rfl) (pv 2) (pv 4) (fun _ _ => rfl)) pe_int (fun _ _ => rfl)) pa_nil)))))))
      (pss_cons (ps_if (pt_not (pt_val (pe_callG GS hg hr1 (by rfl) gS FS.kp bS (pa_cons (pv 8) (pa_cons (pv 9) pa_nil))))) (pss_one (ps_ret pe_bl)) pss_nil)
      (pss_cons (ps_set (i := 10) scLaw.nd rfl (.inr rfl) (pe_tupleOf (by rfl) mT (pe_lc (own := [("k", 4)]) (g := gName 4) (tt := tYes) (te := (tCall spDraw [] E0 (tCons (tVar 1) (tCons (tC (.int 3)) tNil)))) rfl scLaw.nd (pi_range1 (by rfl) mR (pa_cons (pv 3) pa_nil))
          (blkOk_by (N := ["script", "box", "budgets", "many", "k", "turn", "faults", "units", "left", "due", "other", "both"]) (sc := defScope sLaw) (by decide +kernel)) (fun _ _ _ _ _ => pg_name (i := 4) scLaw.nd rfl (.inl rfl)) (fun _ _ _ _ _ => pts_nil) (fun _ _ _ _ _ => (pe_call GD hr1 (by rfl) gD FD.kp bD .nil pass0 (pa_cons (pv 1) (pa_cons pe_int pa_nil)))))))
      (pss_cons (ps_set (i := 11) scLaw.nd rfl (.inl rfl) (pe_tupleOf (by rfl) mT (pe_lc (own := [("k", 4)]) (g := gName 4) (tt := tYes) (te := tOp (rI0 fun i j => .int (i + j)) (tOp (rIxT K) (tVar 6) (tVar 4)) (tOp (rIxT K) (tVar 10) (tVar 4))) rfl scLaw.nd (pi_range1 (by rfl) mR (pa_cons (pv 3) pa_nil))
          (blkOk_by (N := ["script", "box", "budgets", "many", "k", "turn", "faults", "units", "left", "due", "other", "both"]) (sc := defScope sLaw) (by decide +kernel)) (fun _ _ _ _ _ => pg_name (i := 4) scLaw.nd rfl (.inl rfl)) (fun _ _ _ _ _ => pts_nil) (fun _ _ _ _ _ => pe_op op_add (pe_ix (ixT (K := K) rfl) (pv 6) (pv 4) (fun _ _ => rfl)) (pe_ix (ixT (K := K) rfl) (pv 10) (pv 4) (fun _ _ => rfl))))))
      (pss_one (ps_if (pt_cmpR op_ne (pe_call GW hr2 (by rfl) gW FW.kp bW .nil pass0 (pa_cons (pv 8) (pa_cons (pv 10) pa_nil))) (pe_call GF hr (by rfl) gF FF.kp bF .nil pass0 (pa_cons (pv 2) (pa_cons (pv 11) pa_nil))) (nomark _)) (pss_one (ps_ret pe_bl)) pss_nil)))))))) pss_nil))))))
      (pss_one (ps_ret pe_bl))))))), ?_⟩
    -- box = [_law_digits(script, 0, 40), 0]
    refine ⟨.ref a, rfl, a, ns, 40, rfl, by decide, hS, fun H0 D ds s0 nD hD => ?_⟩
    refine ⟨by show 2 ≤ sizeLine; decide, fun b nb => ?_⟩
    have hbx : BoxAt (upd H0 b (.lst [.ref D, .int ((0 : Nat) : Int)])) b D ds 0 := ⟨upd_same, by rw [upd_ne (ne_of_none hD nb)]; exact hD⟩
    -- budgets = _law_budgets(box)
    refine ⟨.ref b, rfl, b, D, ds, 0, rfl, hbx, fun H1 p B n1 hB sB bx1 bu1 np => ?_⟩
    obtain ⟨xs, h1, hl⟩ := bu1.tup
    have h5 := hB.five
    have hn : B.length ≤ 1000 := by omega
    have hW := hB.wf
    -- many = len(budgets)
    refine ⟨.ref p, rfl, p, xs, rfl, .inr (SqT.of h1), ?_⟩
    rw [hl]
    -- the first loop
    refine ⟨_, rfl, (B.length : Int), rfl, by omega, by omega, ?_⟩
    rw [Int.toNat_natCast]
    refine for_range (fun i σ H' => ∃ y4, σ = [some (.ref a), some (.ref b), some (.ref p), some (.int B.length), y4, none, none, none, none, none, none, none] ∧ Same H1 H') ⟨none, rfl, Same.refl _⟩ ?_ ?_
    · rintro i σ H' hi ⟨y4, rfl, sm⟩
      rw [show (0 : Int) + (i : Int) = ((i : Nat) : Int) by omega]
      refine ⟨.ref p, rfl, .int i, rfl, p, B, i, rfl, bu1.same sm, hW, hi, hn, fun H2 u s2 nu hu => ?_⟩
      refine ⟨.ref p, rfl, .int i, rfl, p, B, i, rfl, bu1.same (sm.trans s2), hW, hi, hn, fun H3 v s3 nv hv => ?_⟩
      refine ⟨1, rfl, v, _, rfl, SqL.of hv, fun c nc => ?_⟩
      have s4 := same_new (o := .lst (cutV (iv (full B i)) (some 1) none)) nc
      have hp := parAt_lt hW i
      have e1 : cutV (iv (full B i)) (some 1) none = iv (full B (parAt B i)) := by
        rw [cut1, full_pos hW (by omega), Int.toNat_natCast]
        rfl
      refine ⟨.ref u, .ref c, .list ((full B (parAt B i)).map PyData.int), rfl, dp_list (s4 _ _ (s3 _ _ hu)), dp_list (by rw [upd_same, e1]), full_small hW (by omega), true, rfl, ?_⟩
      dsimp only
      rw [if_neg (show ¬ ((!true) = true) by decide)]
      exact ⟨_, rfl, sm.trans (s2.trans (s3.trans s4))⟩
    rintro σ H' ⟨y4, rfl, sm⟩
    -- the second loop
    refine ⟨4, rfl, by decide, by decide, for_range (n := 4) (fun i σ H' => ∃ y4 y5 y6 y7 y8 y9 y10 y11, σ = [some (.ref a), some (.ref b), some (.ref p), some (.int B.length), y4, y5, y6, y7, y8, y9, y10, y11] ∧ SmB b H1 H' ∧ ∃ n, BoxAt H' b D ds n)
      ⟨_, _, _, _, _, _, _, _, rfl, SmB.of sm, n1, bx1.same sm⟩ ?_ (fun σ H' h => by obtain ⟨_, _, _, _, _, _, _, _, rfl, _⟩ := h; exact q _)⟩
    rintro i σ H' hi ⟨y4, y5, y6, y7, y8, y9, y10, y11, rfl, sm, n0, bx⟩
    -- faults = tuple([..])
    refine ⟨_, rfl, (B.length : Int), rfl, by omega, by omega, fun L nL => ?_⟩
    rw [Int.toNat_natCast]
    have nLb : L ≠ b := (ne_of_none bx.1 nL).symm
    have nLD : L ≠ D := (ne_of_none bx.2 nL).symm
    refine lc_range (fun j H2 => SmB b H' H2 ∧ (∃ n, BoxAt H2 b D ds n) ∧ ∃ g : Nat → Int, (∀ c, c < j → 0 ≤ g c ∧ g c ≤ 6) ∧ H2 L = some (.lst (iv (fl j g))))
      ⟨SmB.newAt (SmB.refl _ _) nL, ⟨n0, bx.other nLb nLD⟩, fun _ => 0, fun c z => absurd z (Nat.not_lt_zero _), upd_same⟩ ?_ ?_
    · rintro j H2 hj ⟨sm2, ⟨n, bx2⟩, g, hg6, hL⟩
      refine ⟨rfl, ?_⟩
      dsimp only [tYes]
      rw [if_pos rfl]
      refine ⟨.ref b, rfl, b, D, ds, n, 7, rfl, bx2, by decide, fun d d0 d7 => ⟨.ref b, rfl, b, D, ds, n + 1, 3, rfl, bx2.bump, by decide, fun e e0 e3 => ⟨rfl, .inr ⟨_, rfl, _, _, rfl, rfl, .inl ⟨by omega, by omega⟩, iv (fl j g), ?_, ?_, ?_⟩⟩⟩⟩
      · rw [upd_ne nLb, upd_ne nLb]; exact hL
      · rw [iv_len]; exact small1000 (by omega)
      · obtain ⟨x, hx⟩ : ∃ x, x = d * (if decide (V.int e = V.int 0) = true then 1 else 0) := ⟨_, rfl⟩
        have x6 : 0 ≤ x ∧ x ≤ 6 := by
          rw [hx]
          split <;> omega
        dsimp only
        rw [← hx]
        refine ⟨SmB.newAt ((sm2.trans bx2.sm).trans bx2.bump.sm) nL, ⟨_, bx2.bump.bump.other nLb nLD⟩, fun c => if c = j then x else g c, fun c hc => ?_, ?_⟩
        · by_cases z : c = j
          · simp only [if_pos z]; exact x6
          · simp only [if_neg z]; exact hg6 c (by omega)
        · rw [upd_same, fl_succ, iv_snoc, if_pos rfl, fl_congr fun c hc => if_neg (show ¬ c = j by omega)]
    rintro H2 ⟨sm2, ⟨n2, bx2⟩, g, hg6, hL⟩
    refine .inl ⟨L, _, rfl, SqL.of hL, fun t nt => ?_⟩
    have st := same_new (o := .tup (iv (fl B.length g))) nt
    obtain ⟨H3, hH3⟩ : ∃ H3, H3 = upd H2 t (.tup (iv (fl B.length g))) := ⟨_, rfl⟩
    rw [← hH3] at st ⊢
    have ht : H3 t = some (.tup (iv (fl B.length g))) := by rw [hH3]; exact upd_same
    clear hH3
    have sm3 : SmB b H1 H3 := (sm.trans sm2).trans (SmB.of st)
    have bx3 := bx2.same st
    have bu3 : BudAt H3 p B := bu1.ts (sm3.ts bx1)
    have uB : ∀ k, k < B.length → -1000 ≤ U B g k ∧ U B g k ≤ 1000 := fun k _ => by
      have := U_bound (by omega) hg6 k
      omega
    -- same(used, _law_used)
    refine ⟨.ref p, rfl, .ref t, rfl, p, t, B, g, rfl, bu3, hW, hn, ht, fun H4 u s4 nu hu => ?_⟩
    refine ⟨.ref p, rfl, .ref t, rfl, p, t, B, g, rfl, bu3.same s4, hW, hn, .inl (s4 _ _ ht), fun H5 v s5 nv hv => ?_⟩
    refine ⟨.ref u, .ref v, .tuple ((usedL B g).map PyData.int), rfl, dp_tup (s5 _ _ hu), dp_tup hv, fl_small hn uB, true, rfl, ?_⟩
    dsimp only
    rw [if_neg (show ¬ ((!true) = true) by decide)]
    have s35 := s4.trans s5
    -- same(is_within, _law_fits)
    refine ⟨.ref p, rfl, .ref t, rfl, p, t, B, g, rfl, bu3.same s35, hW, hn, s35 _ _ ht, fun H6 s6 => ?_⟩
    have s36 := s35.trans s6
    refine ⟨.ref p, rfl, .ref t, rfl, p, t, B, g, rfl, bu3.same s36, hW, hn, .inl (s36 _ _ ht), fun H7 s7 => ?_⟩
    have s37 := s36.trans s7
    refine ⟨_, _, .bool (decide (fitsP B g)), rfl, .bl _, .bl _, small_bool _, true, rfl, ?_⟩
    dsimp only
    rw [if_neg (show ¬ ((!true) = true) by decide)]
    -- if _law_fits
    refine ⟨.ref p, rfl, .ref t, rfl, p, t, B, g, rfl, bu3.same s37, hW, hn, .inl (s37 _ _ ht), fun H8 s8 => ?_⟩
    have s38 := s37.trans s8
    refine ⟨_, rfl, ite2 (fun _ => ?_) (fun _ => ⟨_, _, _, _, _, _, _, _, rfl, sm3.trans (SmB.of s38), _, bx3.same s38⟩)⟩
    -- units, left
    refine ⟨.ref p, rfl, .ref t, rfl, p, t, B, g, rfl, bu3.same s38, hW, hn, .inl (s38 _ _ ht), fun H9 un s9 nun hun => ?_⟩
    have s39 := s38.trans s9
    refine ⟨.ref p, rfl, .ref t, rfl, p, t, B, g, rfl, bu3.same s39, hW, hn, s39 _ _ ht, fun HA le sA nle hle => ?_⟩
    have s3A := s39.trans sA
    have buA := bu3.same s3A
    have hunA := sA _ _ hun
    -- due
    refine ⟨_, rfl, (B.length : Int), rfl, by omega, by omega, fun M nM => ?_⟩
    rw [Int.toNat_natCast]
    refine lc_range (fun j H2 => Same HA H2 ∧ ∃ rs : List Addr, H2 M = some (.lst (rs.map V.ref)) ∧ rs.length = j ∧
        ∀ (c : Nat) (hc : c < B.length), c < j → ∃ r, rs[c]? = some r ∧ H2 r = some (.tup [.str B[c].nm, .int (B[c].cap - U B g c), .int B[c].par]))
      ⟨same_new nM, [], upd_same, rfl, fun j _ z => absurd z (Nat.not_lt_zero _)⟩ ?_ ?_
    · rintro j HB hj ⟨smB, rs, hM, hrl, hrs⟩
      rw [show (0 : Int) + (j : Int) = ((j : Nat) : Int) by omega]
      refine ⟨rfl, ?_⟩
      dsimp only [tYes]
      rw [if_pos rfl]
      obtain ⟨xs2, r2, g1, gl, g2, _, g3⟩ := (buA.same smB).at hj
      refine ⟨.ref p, rfl, .int j, rfl, p, xs2, j, .ref r2, rfl, rfl, SqT.of g1, g2, r2, _, 0, .str B[j].nm, rfl, rfl, SqT.of g3, rfl, ?_⟩
      refine ⟨.ref p, rfl, .int j, rfl, p, xs2, j, .ref r2, rfl, rfl, SqT.of g1, g2, r2, _, 1, .int B[j].cap, rfl, rfl, SqT.of g3, rfl, .ref un, rfl, .int j, rfl, un, _, j, .int (U B g j), rfl, rfl, SqT.of (smB _ _ hunA), atI_nat (by rw [usedL_fl, iv_get hj]), _, _, rfl, rfl, ?_⟩
      refine ⟨.ref p, rfl, .int j, rfl, p, xs2, j, .ref r2, rfl, rfl, SqT.of g1, g2, r2, _, 2, .int B[j].par, rfl, rfl, SqT.of g3, rfl, (by show 3 ≤ sizeLine; decide), fun Z nZ => ?_⟩
      have sZ := same_new (o := .tup [.str B[j].nm, .int (B[j].cap - U B g j), .int B[j].par]) nZ
      have nMZ : M ≠ Z := ne_of_none hM nZ
      refine ⟨_, sZ _ _ hM, ?_, same_upd' (smB.trans sZ) nM, rs ++ [Z], ?_, ?_, fun c hc hcj => ?_⟩
      · rw [List.length_map, hrl]; exact small1000 (by omega)
      · rw [upd_same, List.map_append]; rfl
      · rw [List.length_append, hrl]; rfl
      · by_cases z : c < j
        · obtain ⟨r, e1, e2⟩ := hrs c hc z
          refine ⟨r, by rw [List.getElem?_append_left (by omega)]; exact e1, ?_⟩
          have nr : r ≠ M := ne_of e2 hM (by intro z; cases z)
          rw [upd_ne nr]
          exact sZ _ _ e2
        · obtain rfl : c = j := by omega
          refine ⟨Z, by rw [List.getElem?_append_right (by omega), hrl, Nat.sub_self]; rfl, ?_⟩
          rw [upd_ne nMZ.symm, upd_same]
    rintro HB ⟨smB, rs, hM, hrl, hrs⟩
    refine .inl ⟨M, _, rfl, SqL.of hM, fun du ndu => ?_⟩
    have sdu := same_new (o := .tup (rs.map V.ref)) ndu
    have hdue : BudAt (upd HB du (.tup (rs.map V.ref))) du (remB B g) := ⟨rs, upd_same, by rw [hrl, remB_len], fun i b e => by
      obtain ⟨hi, rfl⟩ := remB_get e
      obtain ⟨r, e1, e2⟩ := hrs i hi hi
      exact ⟨r, e1, sdu _ _ e2⟩⟩
    obtain ⟨HC, hHC⟩ : ∃ HC, HC = upd HB du (.tup (rs.map V.ref)) := ⟨_, rfl⟩
    rw [← hHC] at sdu hdue ⊢
    clear hHC
    have sAC : Same HA HC := smB.trans sdu
    have s3C := s3A.trans sAC
    have hleC := hle.same sAC
    -- same(left, due)
    refine ⟨.ref le, rfl, .ref du, rfl, .ref le, .ref du, .tuple ((remB B g).map bdD), rfl, dp_buds hleC, dp_buds hdue, small_buds (remB_ok hB hg6) (by rw [remB_len]; omega), true, rfl, ?_⟩
    dsimp only
    rw [if_neg (show ¬ ((!true) = true) by decide)]
    have smC := sm3.trans (SmB.of s3C)
    have bxC := bx3.same s3C
    have htC := s3C _ _ ht
    -- other
    refine ⟨_, rfl, (B.length : Int), rfl, by omega, by omega, fun O nO => ?_⟩
    rw [Int.toNat_natCast]
    have nOb : O ≠ b := (ne_of_none bxC.1 nO).symm
    have nOD : O ≠ D := (ne_of_none bxC.2 nO).symm
    refine lc_range (fun j H2 => SmB b HC H2 ∧ (∃ n, BoxAt H2 b D ds n) ∧ ∃ o : Nat → Int, H2 O = some (.lst (iv (fl j o))))
      ⟨SmB.newAt (SmB.refl _ _) nO, ⟨_, bxC.other nOb nOD⟩, fun _ => 0, upd_same⟩ ?_ ?_
    · rintro j H2 hj ⟨smD, ⟨n, bxD⟩, o, hO⟩
      refine ⟨rfl, ?_⟩
      dsimp only [tYes]
      rw [if_pos rfl]
      refine ⟨.ref b, rfl, b, D, ds, n, 3, rfl, bxD, by decide, fun d d0 d3 => ⟨iv (fl j o), ?_, ?_, ?_⟩⟩
      · rw [upd_ne nOb]; exact hO
      · rw [iv_len]; exact small1000 (by omega)
      · refine ⟨SmB.newAt (smD.trans bxD.sm) nO, ⟨_, bxD.bump.other nOb nOD⟩, fun c => if c = j then d else o c, ?_⟩
        rw [upd_same, fl_succ, iv_snoc, if_pos rfl, fl_congr fun c hc => if_neg (show ¬ c = j by omega)]
    rintro HD ⟨smD, ⟨nD2, bxD⟩, o, hO⟩
    refine .inl ⟨O, _, rfl, SqL.of hO, fun ot not => ?_⟩
    have sot := same_new (o := .tup (iv (fl B.length o))) not
    have hot : upd HD ot (.tup (iv (fl B.length o))) ot = some (.tup (iv (fl B.length o))) := upd_same
    obtain ⟨HE, hHE⟩ : ∃ HE, HE = upd HD ot (.tup (iv (fl B.length o))) := ⟨_, rfl⟩
    rw [← hHE] at sot hot ⊢
    clear hHE
    have tsE : Ts HC HE := (smD.ts bxC).trans (Ts.of sot)
    have smE := (smC.trans smD).trans (SmB.of sot)
    have bxE := bxD.same sot
    have htE := tsE _ _ htC
    have hleE := hleC.ts tsE
    have buE : BudAt HE p B := bu1.ts (smE.ts bx1)
    -- both
    refine ⟨_, rfl, (B.length : Int), rfl, by omega, by omega, fun S nS => ?_⟩
    rw [Int.toNat_natCast]
    refine lc_range (fun j H2 => Same HE H2 ∧ H2 S = some (.lst (iv (fl j (fun c => g c + o c)))))
      ⟨same_new nS, upd_same⟩ ?_ ?_
    · rintro j H2 hj ⟨smF, hS2⟩
      rw [show (0 : Int) + (j : Int) = ((j : Nat) : Int) by omega]
      refine ⟨rfl, ?_⟩
      dsimp only [tYes]
      rw [if_pos rfl]
      refine ⟨.ref t, rfl, .int j, rfl, t, _, j, .int (g j), rfl, rfl, SqT.of (smF _ _ htE), atI_nat (iv_get hj), .ref ot, rfl, .int j, rfl, ot, _, j, .int (o j), rfl, rfl, SqT.of (smF _ _ hot), atI_nat (iv_get hj), _, _, rfl, rfl, _, hS2, ?_, same_upd' smF nS, ?_⟩
      · rw [iv_len]; exact small1000 (by omega)
      · rw [upd_same, fl_succ, iv_snoc]
    rintro HF ⟨smF, hS2⟩
    refine .inl ⟨S, _, rfl, SqL.of hS2, fun bo nbo => ?_⟩
    have sbo := same_new (o := .tup (iv (fl B.length (fun c => g c + o c)))) nbo
    have sEG := smF.trans sbo
    -- is_within(left, other) != _law_fits(budgets, both)
    refine ⟨.ref le, rfl, .ref ot, rfl, le, ot, remB B g, o, rfl, hleE.same sEG, remB_wf hW g, by rw [remB_len]; omega, by rw [remB_len]; exact sEG _ _ hot, fun HG sG => ?_⟩
    have sEH := sEG.trans sG
    refine ⟨.ref p, rfl, .ref bo, rfl, p, bo, B, (fun c => g c + o c), rfl, buE.same sEH, hW, hn, .inl (sG _ _ upd_same), fun HH sH => ?_⟩
    have sEI := sEH.trans sH
    refine ⟨rfl, _, rfl, iteNS ?_ ⟨_, _, _, _, _, _, _, _, rfl, smE.trans (SmB.of sEI), _, bxE.same sEI⟩⟩
    congr 1
    rw [Bool.eq_iff_iff, decide_eq_true_iff, decide_eq_true_iff]
    exact remB_fits B g o
end
end Fd

set_option Elab.async false
set_option linter.all false
set_option maxRecDepth 100000
set_option maxHeartbeats 4000000
namespace Fd
open PySem PySem.Spec PyProof.Rows L2 RZ
/-! ### what the top has written -/
theorem all_mk {l : PySem.W.OpenLaw} {w : World} {K : PySem.W.Frag} {h : Heap} {mg : Str → Option Value} {fa : Addr} (X : K.In h) (G : h.Ns mainGlobals mg) (hfa : mg "law" = some (.ref fa))
    {f0 f1 f2 f3 f4 f5 f6 f7 f8 f9 f10 f11 f12 : Addr} {od0 an0 od1 an1 od2 an2 od3 an3 od4 an4 od5 an5 od6 an6 od7 an7 od8 an8 od9 an9 od10 an10 od11 an11 od12 an12 : Option Addr} {sl0 sl1 sl2 sl3 sl4 sl5 sl6 sl7 sl8 sl9 sl10 sl11 sl12 : Array (Option Value)}
    {oc0 kV0 dc0 pm0 cd0 ct0 oc1 kV1 dc1 pm1 cd1 ct1 oc2 kV2 dc2 pm2 cd2 ct2 oc3 kV3 dc3 pm3 cd3 ct3 oc4 kV4 dc4 pm4 cd4 ct4 oc5 kV5 dc5 pm5 cd5 ct5 oc6 kV6 dc6 pm6 cd6 ct6 oc7 kV7 dc7 pm7 cd7 ct7 oc8 kV8 dc8 pm8 cd8 ct8 oc9 kV9 dc9 pm9 cd9 ct9 oc10 kV10 dc10 pm10 cd10 ct10 oc11 kV11 dc11 pm11 cd11 ct11 oc12 kV12 dc12 pm12 cd12 ct12 : Value}
    (a0 : PySem.W.nsIn K mainGlobals "above" = some (some (.ref f0))) (l0 : K.lookup f0 = some ⟨oc0, od0, .func (PySem.W.fnOf "above" "above" (defArgs sAbove) (defBody sAbove) (defScope sAbove) .none kV0 dc0 pm0 an0 cd0 ct0), sl0⟩)
    (c0 : PySem.W.codeIn K cd0 "above" = true) (k0 : PySem.W.keepIn K (.ref f0) = true)
    (a1 : PySem.W.nsIn K mainGlobals "used" = some (some (.ref f1))) (l1 : K.lookup f1 = some ⟨oc1, od1, .func (PySem.W.fnOf "used" "used" (defArgs sUsed) (defBody sUsed) (defScope sUsed) .none kV1 dc1 pm1 an1 cd1 ct1), sl1⟩)
    (c1 : PySem.W.codeIn K cd1 "used" = true) (k1 : PySem.W.keepIn K (.ref f1) = true)
    (a2 : PySem.W.nsIn K mainGlobals "is_within" = some (some (.ref f2))) (l2 : K.lookup f2 = some ⟨oc2, od2, .func (PySem.W.fnOf "is_within" "is_within" (defArgs sWithin) (defBody sWithin) (defScope sWithin) .none kV2 dc2 pm2 an2 cd2 ct2), sl2⟩)
    (c2 : PySem.W.codeIn K cd2 "is_within" = true) (k2 : PySem.W.keepIn K (.ref f2) = true)
    (a3 : PySem.W.nsIn K mainGlobals "remaining" = some (some (.ref f3))) (l3 : K.lookup f3 = some ⟨oc3, od3, .func (PySem.W.fnOf "remaining" "remaining" (defArgs sRemain) (defBody sRemain) (defScope sRemain) .none kV3 dc3 pm3 an3 cd3 ct3), sl3⟩)
    (c3 : PySem.W.codeIn K cd3 "remaining" = true) (k3 : PySem.W.keepIn K (.ref f3) = true)
    (a4 : PySem.W.nsIn K mainGlobals "_law_cell" = some (some (.ref f4))) (l4 : K.lookup f4 = some ⟨oc4, od4, .func (PySem.W.fnOf "_law_cell" "_law_cell" (defArgs sCell) (defBody sCell) (defScope sCell) .none kV4 dc4 pm4 an4 cd4 ct4), sl4⟩)
    (c4 : PySem.W.codeIn K cd4 "_law_cell" = true) (k4 : PySem.W.keepIn K (.ref f4) = true)
    (a5 : PySem.W.nsIn K mainGlobals "_law_digits" = some (some (.ref f5))) (l5 : K.lookup f5 = some ⟨oc5, od5, .func (PySem.W.fnOf "_law_digits" "_law_digits" (defArgs sDigits) (defBody sDigits) (defScope sDigits) .none kV5 dc5 pm5 an5 cd5 ct5), sl5⟩)
    (c5 : PySem.W.codeIn K cd5 "_law_digits" = true) (k5 : PySem.W.keepIn K (.ref f5) = true)
    (a6 : PySem.W.nsIn K mainGlobals "_law_draw" = some (some (.ref f6))) (l6 : K.lookup f6 = some ⟨oc6, od6, .func (PySem.W.fnOf "_law_draw" "_law_draw" (defArgs sDraw) (defBody sDraw) (defScope sDraw) .none kV6 dc6 pm6 an6 cd6 ct6), sl6⟩)
    (c6 : PySem.W.codeIn K cd6 "_law_draw" = true) (k6 : PySem.W.keepIn K (.ref f6) = true)
    (a7 : PySem.W.nsIn K mainGlobals "_law_same" = some (some (.ref f7))) (l7 : K.lookup f7 = some ⟨oc7, od7, .func (PySem.W.fnOf "_law_same" "_law_same" (defArgs sSame) (defBody sSame) (defScope sSame) .none kV7 dc7 pm7 an7 cd7 ct7), sl7⟩)
    (c7 : PySem.W.codeIn K cd7 "_law_same" = true) (k7 : PySem.W.keepIn K (.ref f7) = true)
    (a8 : PySem.W.nsIn K mainGlobals "_law_budgets" = some (some (.ref f8))) (l8 : K.lookup f8 = some ⟨oc8, od8, .func (PySem.W.fnOf "_law_budgets" "_law_budgets" (defArgs sBudgets) (defBody sBudgets) (defScope sBudgets) .none kV8 dc8 pm8 an8 cd8 ct8), sl8⟩)
    (c8 : PySem.W.codeIn K cd8 "_law_budgets" = true) (k8 : PySem.W.keepIn K (.ref f8) = true)
    (a9 : PySem.W.nsIn K mainGlobals "_law_path" = some (some (.ref f9))) (l9 : K.lookup f9 = some ⟨oc9, od9, .func (PySem.W.fnOf "_law_path" "_law_path" (defArgs sPath) (defBody sPath) (defScope sPath) .none kV9 dc9 pm9 an9 cd9 ct9), sl9⟩)
    (c9 : PySem.W.codeIn K cd9 "_law_path" = true) (k9 : PySem.W.keepIn K (.ref f9) = true)
    (a10 : PySem.W.nsIn K mainGlobals "_law_used" = some (some (.ref f10))) (l10 : K.lookup f10 = some ⟨oc10, od10, .func (PySem.W.fnOf "_law_used" "_law_used" (defArgs sLUsed) (defBody sLUsed) (defScope sLUsed) .none kV10 dc10 pm10 an10 cd10 ct10), sl10⟩)
    (c10 : PySem.W.codeIn K cd10 "_law_used" = true) (k10 : PySem.W.keepIn K (.ref f10) = true)
    (a11 : PySem.W.nsIn K mainGlobals "_law_fits" = some (some (.ref f11))) (l11 : K.lookup f11 = some ⟨oc11, od11, .func (PySem.W.fnOf "_law_fits" "_law_fits" (defArgs sLFits) (defBody sLFits) (defScope sLFits) .none kV11 dc11 pm11 an11 cd11 ct11), sl11⟩)
    (c11 : PySem.W.codeIn K cd11 "_law_fits" = true) (k11 : PySem.W.keepIn K (.ref f11) = true)
    (a12 : PySem.W.nsIn K mainGlobals "law" = some (some (.ref f12))) (l12 : K.lookup f12 = some ⟨oc12, od12, .func (PySem.W.fnOf "law" "law" (defArgs sLaw) (defBody sLaw) (defScope sLaw) .none kV12 dc12 pm12 an12 cd12 ct12), sl12⟩)
    (c12 : PySem.W.codeIn K cd12 "law" = true) (k12 : PySem.W.keepIn K (.ref f12) = true)
    (z_list : PySem.W.nsIn K mainGlobals "list" = some none)
    (z_reversed : PySem.W.nsIn K mainGlobals "reversed" = some none)
    (z_range : PySem.W.nsIn K mainGlobals "range" = some none)
    (z_len : PySem.W.nsIn K mainGlobals "len" = some none)
    (z_tuple : PySem.W.nsIn K mainGlobals "tuple" = some none)
    (z_all : PySem.W.nsIn K mainGlobals "all" = some none)
    (z_zip : PySem.W.nsIn K mainGlobals "zip" = some none)
    (z_enumerate : PySem.W.nsIn K mainGlobals "enumerate" = some none)
    (z_int : PySem.W.nsIn K mainGlobals "int" = some none)
    (z_repr : PySem.W.nsIn K mainGlobals "repr" = some none)
    (z_sum : PySem.W.nsIn K mainGlobals "sum" = some none) :
    ∃ fd : FuncData, (∀ (s : Shared) (v : Value), BindsTo s fd ⟨[v], []⟩ [("script", v)]) ∧ ∀ base : Heap, K.In base → base.Ns mainGlobals mg → GOk l.prog w K mg base 4 fa fd ["script"] (spLaw K) := by
  have e := hfa.symm.trans (PySem.W.mg_of X G a12)
  cases e
  have F0 := fun_mk (st := sAbove) l0 c0 k0
  have b0 := F0.binds (ps := ["budgets", "k"]) fun _ _ _ _ _ _ us hl => match us, hl with | [_, _], _ => rfl
  have g0 := PySem.W.mg_of X G a0
  have F1 := fun_mk (st := sUsed) l1 c1 k1
  have b1 := F1.binds (ps := ["budgets", "faults"]) fun _ _ _ _ _ _ us hl => match us, hl with | [_, _], _ => rfl
  have g1 := PySem.W.mg_of X G a1
  have F2 := fun_mk (st := sWithin) l2 c2 k2
  have b2 := F2.binds (ps := ["budgets", "faults"]) fun _ _ _ _ _ _ us hl => match us, hl with | [_, _], _ => rfl
  have g2 := PySem.W.mg_of X G a2
  have F3 := fun_mk (st := sRemain) l3 c3 k3
  have b3 := F3.binds (ps := ["budgets", "faults"]) fun _ _ _ _ _ _ us hl => match us, hl with | [_, _], _ => rfl
  have g3 := PySem.W.mg_of X G a3
  have F4 := fun_mk (st := sCell) l4 c4 k4
  have b4 := F4.binds (ps := ["script", "k"]) fun _ _ _ _ _ _ us hl => match us, hl with | [_, _], _ => rfl
  have g4 := PySem.W.mg_of X G a4
  have F5 := fun_mk (st := sDigits) l5 c5 k5
  have b5 := F5.binds (ps := ["script", "first", "last"]) fun _ _ _ _ _ _ us hl => match us, hl with | [_, _, _], _ => rfl
  have g5 := PySem.W.mg_of X G a5
  have F6 := fun_mk (st := sDraw) l6 c6 k6
  have b6 := F6.binds (ps := ["box", "many"]) fun _ _ _ _ _ _ us hl => match us, hl with | [_, _], _ => rfl
  have g6 := PySem.W.mg_of X G a6
  have F7 := fun_mk (st := sSame) l7 c7 k7
  have b7 := F7.binds (ps := ["actual", "due"]) fun _ _ _ _ _ _ us hl => match us, hl with | [_, _], _ => rfl
  have g7 := PySem.W.mg_of X G a7
  have F8 := fun_mk (st := sBudgets) l8 c8 k8
  have b8 := F8.binds (ps := ["box"]) fun _ _ _ _ _ _ us hl => match us, hl with | [_], _ => rfl
  have g8 := PySem.W.mg_of X G a8
  have F9 := fun_mk (st := sPath) l9 c9 k9
  have b9 := F9.binds (ps := ["budgets", "k"]) fun _ _ _ _ _ _ us hl => match us, hl with | [_, _], _ => rfl
  have g9 := PySem.W.mg_of X G a9
  have F10 := fun_mk (st := sLUsed) l10 c10 k10
  have b10 := F10.binds (ps := ["budgets", "faults"]) fun _ _ _ _ _ _ us hl => match us, hl with | [_, _], _ => rfl
  have g10 := PySem.W.mg_of X G a10
  have F11 := fun_mk (st := sLFits) l11 c11 k11
  have b11 := F11.binds (ps := ["budgets", "faults"]) fun _ _ _ _ _ _ us hl => match us, hl with | [_, _], _ => rfl
  have g11 := PySem.W.mg_of X G a11
  have F12 := fun_mk (st := sLaw) l12 c12 k12
  have m_list := PySem.W.mg_none_of X G z_list
  have m_reversed := PySem.W.mg_none_of X G z_reversed
  have m_range := PySem.W.mg_none_of X G z_range
  have m_len := PySem.W.mg_none_of X G z_len
  have m_tuple := PySem.W.mg_none_of X G z_tuple
  have m_all := PySem.W.mg_none_of X G z_all
  have m_zip := PySem.W.mg_none_of X G z_zip
  have m_enumerate := PySem.W.mg_none_of X G z_enumerate
  have m_int := PySem.W.mg_none_of X G z_int
  have m_repr := PySem.W.mg_none_of X G z_repr
  have m_sum := PySem.W.mg_none_of X G z_sum
  refine ⟨PySem.W.fnOf "law" "law" (defArgs sLaw) (defBody sLaw) (defScope sLaw) .none kV12 dc12 pm12 an12 cd12 ct12, fun s v => .of_eq rfl, fun base _ _ => ?_⟩
  have GA := ok_above (P := l.prog) (w := w) (mg := mg) (base := base) F0
  have GU := ok_used (P := l.prog) (w := w) (base := base) F1 m_list m_reversed m_range m_len m_tuple
  have GW := ok_within F2 F1 GU b1 g1 m_all m_zip
  have GR := ok_remain F3 F1 GU b1 g1 m_tuple m_enumerate
  have GC := ok_cell (P := l.prog) (w := w) (base := base) F4 m_len
  have GDi := ok_digits F5 F4 GC b4 g4 m_range m_int
  have GD := ok_draw (P := l.prog) (w := w) (base := base) F6 m_len m_int
  have GS := ok_same (P := l.prog) (w := w) (base := base) F7 m_repr
  have GB := ok_budgets F8 F6 GD b6 g6 m_range
  have GP := ok_path (P := l.prog) (w := w) (base := base) F9 m_range m_len
  have GLU := ok_lused F10 F9 GP b9 g9 m_range m_len m_sum m_tuple
  have GF := ok_lfits F11 F10 GLU b10 g10 m_range m_len
  exact ok_law F12 F5 GDi b5 g5 F6 GD b6 g6 F7 GS b7 g7 F8 GB b8 g8 F9 GP b9 g9 F10 GLU b10 g10 F11 GF b11 g11 F0 GA b0 g0 F1 GU b1 g1 F2 GW b2 g2 F3 GR b3 g3 m_range m_len m_tuple m_int
end Fd

open PySem PySem.W PyProof.Rows in
set_option maxRecDepth 100000 in
set_option maxHeartbeats 0 in
theorem PySem.Challenge.cw_faultdue_k00_uses_and_remains_holds : PySem.Challenge.rw_faultdue_k00_uses_and_remains.Holds := by
  w_on; o_law; k_head; (case hw => w_witness2)
  k_fill
  refine Fd.walk_ofG (l := PySem.Challenge.rw_faultdue_k00_uses_and_remains) (n := 63) (k := 4) (x := "script") (sp := fun w => Fd.spLaw _) rfl (by decide) rfl ⟨rfl, by decide, by decide⟩ (fun w h Y => PySem.W.kIn_of Y) ?F (fun _ _ a ns hl _ hS => ⟨a, ns, rfl, hS, hl, fun _ => rfl⟩)
  case F =>
    intro w mg fa h KX G hmg
    refine' Fd.all_mk KX G hmg ?a0 ?l0 ?c0 ?k0 ?a1 ?l1 ?c1 ?k1 ?a2 ?l2 ?c2 ?k2 ?a3 ?l3 ?c3 ?k3 ?a4 ?l4 ?c4 ?k4 ?a5 ?l5 ?c5 ?k5 ?a6 ?l6 ?c6 ?k6 ?a7 ?l7 ?c7 ?k7 ?a8 ?l8 ?c8 ?k8 ?a9 ?l9 ?c9 ?k9 ?a10 ?l10 ?c10 ?k10 ?a11 ?l11 ?c11 ?k11 ?a12 ?l12 ?c12 ?k12 ?z_list ?z_reversed ?z_range ?z_len ?z_tuple ?z_all ?z_zip ?z_enumerate ?z_int ?z_repr ?z_sum
    (case a0 => k_is)
    (case l0 => k_is)
    (case c0 => k_is)
    (case k0 => k_is)
    (case a1 => k_is)
    (case l1 => k_is)
    (case c1 => k_is)
    (case k1 => k_is)
    (case a2 => k_is)
    (case l2 => k_is)
    (case c2 => k_is)
    (case k2 => k_is)
    (case a3 => k_is)
    (case l3 => k_is)
    (case c3 => k_is)
    (case k3 => k_is)
    (case a4 => k_is)
    (case l4 => k_is)
    (case c4 => k_is)
    (case k4 => k_is)
    (case a5 => k_is)
    (case l5 => k_is)
    (case c5 => k_is)
    (case k5 => k_is)
    (case a6 => k_is)
    (case l6 => k_is)
    (case c6 => k_is)
    (case k6 => k_is)
    (case a7 => k_is)
    (case l7 => k_is)
    (case c7 => k_is)
    (case k7 => k_is)
    (case a8 => k_is)
    (case l8 => k_is)
    (case c8 => k_is)
    (case k8 => k_is)
    (case a9 => k_is)
    (case l9 => k_is)
    (case c9 => k_is)
    (case k9 => k_is)
    (case a10 => k_is)
    (case l10 => k_is)
    (case c10 => k_is)
    (case k10 => k_is)
    (case a11 => k_is)
    (case l11 => k_is)
    (case c11 => k_is)
    (case k11 => k_is)
    (case a12 => k_is)
    (case l12 => k_is)
    (case c12 => k_is)
    (case k12 => k_is)
    (case z_list => k_is)
    (case z_reversed => k_is)
    (case z_range => k_is)
    (case z_len => k_is)
    (case z_tuple => k_is)
    (case z_all => k_is)
    (case z_zip => k_is)
    (case z_enumerate => k_is)
    (case z_int => k_is)
    (case z_repr => k_is)
    (case z_sum => k_is)
