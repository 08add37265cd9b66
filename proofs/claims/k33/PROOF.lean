import PyProof.Rows.All
import Wide.All
import OpenK.AllK
import Wide.FinOn
import PySem.PyData
import HandS.ForMost
import HandS.ForList
import HandS.Zip
import HandS.Conv
import HandS.RevRange
import HandS.Deep
import HandS.Walk
import KE.GoesMore
import HandS.TupAny
import HandS.Text
import HandS.StrMore
import PyProof.StrOps2
import PyProof.Rows.StrPadWhole
import PyProof.Rows.RegReprOcc
import PyProof.StrLawsIn
import HandS.AnyAll
import PyProof.GenCompD
import PyProof.CallFns
import HandS.ExcIs
import HandS.ExcField
import KE.KExcIs
import HandS.ExcInit
import HandS.WordsExc
import HandS.Lambda
import HandS.EndTab
import KE.SortKeyHeap
import KE.GoesEnumKw
import HandS.SortKw
import KE.IntTextLaws
import HandS.TryOnly
import HandS.IsInst
import HandS.RaiseMore
import HandS.Evl
import KE.KNest
import KE.KNestM
import PySem.Challenge.RW_faultdue_k33_paper_texts
set_option autoImplicit true
/-! Budgets as plain lists: chains of parents, what is used, what fits. -/
namespace Fd
structure Bd where
  nm : PySem.Str
  cap : Int
  par : Int

def parAt (B : List Bd) (k : Nat) : Int := match B[k]? with
  | some b => b.par
  | none => -1
def capAt (B : List Bd) (k : Nat) : Int := match B[k]? with
  | some b => b.cap
  | none => 0
/-- each parent is -1 or an earlier index -/
def WF (B : List Bd) : Prop := ∀ (k : Nat) (b : Bd), B[k]? = some b → -1 ≤ b.par ∧ b.par < k
theorem parAt_lt {B : List Bd} (h : WF B) (k : Nat) : -1 ≤ parAt B k ∧ parAt B k < k := by
  unfold parAt
  split
  · rename_i b e; exact h k b e
  · omega
def ch (B : List Bd) : Nat → Int → List Int
  | 0, _ => []
  | f + 1, k => if k < 0 then [] else k :: ch B f (parAt B k.toNat)
theorem ch_fuel {B : List Bd} (h : WF B) : ∀ (n f g : Nat) (k : Int), (k + 1).toNat ≤ n → n ≤ f → n ≤ g → ch B f k = ch B g k := by
  intro n
  induction n with
  | zero =>
    intro f g k hk _ _
    have hk' : k < 0 := by omega
    cases f <;> cases g <;> simp [ch, hk']
  | succ n ih =>
    intro f g k hk hf hg
    obtain ⟨f', rfl⟩ : ∃ f', f = f' + 1 := ⟨f - 1, by omega⟩
    obtain ⟨g', rfl⟩ : ∃ g', g = g' + 1 := ⟨g - 1, by omega⟩
    by_cases hk' : k < 0
    · simp [ch, hk']
    · have hp := parAt_lt h k.toNat
      simp only [ch, if_neg hk']
      rw [ih f' g' (parAt B k.toNat) (by omega) (by omega) (by omega)]
/-- k and what is above it -/
def full (B : List Bd) (k : Int) : List Int := ch B (k + 1).toNat k
theorem full_neg {B : List Bd} {k : Int} (hk : k < 0) : full B k = [] := by
  unfold full
  have e : (k + 1).toNat = 0 := by omega
  rw [e]; rfl
theorem full_pos {B : List Bd} (h : WF B) {k : Int} (hk : 0 ≤ k) : full B k = k :: full B (parAt B k.toNat) := by
  have hp := parAt_lt h k.toNat
  unfold full
  obtain ⟨m, hm⟩ : ∃ m, (k + 1).toNat = m + 1 := ⟨k.toNat, by omega⟩
  rw [hm]
  simp only [ch, if_neg (show ¬ k < 0 by omega)]
  rw [ch_fuel h (parAt B k.toNat + 1).toNat m (parAt B k.toNat + 1).toNat _ (Nat.le_refl _) (by omega) (Nat.le_refl _)]
theorem ch_full {B : List Bd} (h : WF B) {f : Nat} {k : Int} (hf : k < f) : ch B f k = full B k :=
  ch_fuel h (k + 1).toNat f _ k (Nat.le_refl _) (by omega) (Nat.le_refl _)
theorem full_mem {B : List Bd} (h : WF B) : ∀ (n : Nat) (k : Int), (k + 1).toNat ≤ n → ∀ x ∈ full B k, 0 ≤ x ∧ x ≤ k := by
  intro n
  induction n with
  | zero =>
    intro k hk x hx
    rw [full_neg (by omega)] at hx
    cases hx
  | succ n ih =>
    intro k hk x hx
    by_cases hk' : k < 0
    · rw [full_neg hk'] at hx
      cases hx
    · rw [full_pos h (by omega)] at hx
      have hp := parAt_lt h k.toNat
      rcases List.mem_cons.mp hx with e | hx
      · subst e; omega
      · have := ih _ (by omega) x hx
        omega
theorem full_le {B : List Bd} (h : WF B) {k x : Int} (hx : x ∈ full B k) : 0 ≤ x ∧ x ≤ k := full_mem h _ k (Nat.le_refl _) x hx

/-! ### sums -/
def sm : Nat → (Nat → Int) → Int
  | 0, _ => 0
  | n + 1, g => sm n g + g n
theorem sm_congr {g g' : Nat → Int} : ∀ {n : Nat}, (∀ j, j < n → g j = g' j) → sm n g = sm n g'
  | 0, _ => rfl
  | n + 1, h => by
    simp only [sm]
    rw [sm_congr (n := n) fun j hj => h j (by omega), h n (by omega)]
theorem sm_add (g g' : Nat → Int) : ∀ n : Nat, sm n (fun j => g j + g' j) = sm n g + sm n g'
  | 0 => rfl
  | n + 1 => by
    simp only [sm]
    rw [sm_add g g' n]
    omega
theorem sm_zero : ∀ n : Nat, sm n (fun _ => 0) = 0
  | 0 => rfl
  | n + 1 => by simp only [sm]; rw [sm_zero n]; rfl
theorem sm_swap (g : Nat → Nat → Int) (m : Nat) : ∀ n : Nat, sm n (fun i => sm m (g i)) = sm m (fun j => sm n (fun i => g i j))
  | 0 => (sm_zero m).symm
  | n + 1 => by
    show sm n (fun i => sm m (g i)) + sm m (g n) = sm m (fun j => sm n (fun i => g i j) + g n j)
    rw [sm_add, sm_swap g m n]
theorem sm_one (x : Int) (i : Nat) : ∀ n : Nat, sm n (fun j => if j = i then x else 0) = if i < n then x else 0
  | 0 => by simp [sm]
  | n + 1 => by
    simp only [sm]
    rw [sm_one x i n]
    by_cases h1 : i < n
    · rw [if_pos h1, if_neg (show ¬ n = i by omega), if_pos (show i < n + 1 by omega)]; omega
    · by_cases h2 : n = i
      · rw [if_neg h1, if_pos h2, if_pos (show i < n + 1 by omega)]; omega
      · rw [if_neg h1, if_neg h2, if_neg (show ¬ i < n + 1 by omega)]; omega
theorem sm_nonneg {g : Nat → Int} : ∀ {n : Nat}, (∀ j, j < n → 0 ≤ g j) → 0 ≤ sm n g
  | 0, _ => Int.le_refl 0
  | n + 1, h => by
    simp only [sm]
    have h1 := sm_nonneg (n := n) (g := g) fun j hj => h j (by omega)
    have h2 := h n (by omega)
    omega
theorem sm_le {g : Nat → Int} {c : Int} : ∀ {n : Nat}, (∀ j, j < n → g j ≤ c) → sm n g ≤ n * c
  | 0, _ => by simp [sm]
  | n + 1, h => by
    simp only [sm]
    have h1 := sm_le (n := n) (g := g) (c := c) fun j hj => h j (by omega)
    have h2 := h n (by omega)
    have e : ((n + 1 : Nat) : Int) * c = n * c + c := by rw [Int.natCast_add, Int.add_mul]; simp
    omega
theorem sum_filter (p : Nat → Bool) (g : Nat → Int) : ∀ n : Nat, (((List.range n).filter p).map g).sum = sm n (fun j => if p j = true then g j else 0)
  | 0 => rfl
  | n + 1 => by
    rw [List.range_succ, List.filter_append, List.map_append, List.sum_append, sum_filter p g n]
    simp only [sm]
    by_cases h : p n = true
    · simp [h]
    · simp [h]

/-! ### what is used -/
/-- used of the budget k: the faults whose source is k or has it above itself -/
def U (B : List Bd) (f : Nat → Int) (k : Nat) : Int := sm B.length (fun j => if (k : Int) ∈ full B j then f j else 0)
theorem U_congr {B : List Bd} {f g : Nat → Int} (h : ∀ j, j < B.length → f j = g j) (k : Nat) : U B f k = U B g k :=
  sm_congr fun j hj => by rw [h j hj]
theorem U_add (B : List Bd) (f g : Nat → Int) (k : Nat) : U B (fun j => f j + g j) k = U B f k + U B g k := by
  unfold U
  rw [← sm_add]
  refine sm_congr fun j _ => ?_
  by_cases q : (k : Int) ∈ full B j
  · simp only [if_pos q]
  · simp only [if_neg q]; rfl
/-- the indicator's recurrence -/
theorem ind_rec {B : List Bd} (h : WF B) (f : Int) (k : Nat) (hk : k < B.length) : ∀ (n : Nat) (j : Int), (j + 1).toNat ≤ n → j < B.length →
    (if (k : Int) ∈ full B j then f else 0) = (if (k : Int) = j then f else 0) + sm B.length (fun c => if parAt B c = k then (if (c : Int) ∈ full B j then f else 0) else 0) := by
  intro n
  induction n with
  | zero =>
    intro j hj _
    rw [full_neg (show j < 0 by omega)]
    have e : sm B.length (fun c => if parAt B c = k then (if (c : Int) ∈ ([] : List Int) then f else 0) else 0) = 0 :=
      (sm_congr (g' := fun _ => 0) fun c _ => by simp).trans (sm_zero _)
    rw [e, if_neg (List.not_mem_nil), if_neg (show ¬ (k : Int) = j by omega)]
    rfl
  | succ n ih =>
    intro j hj hjl
    by_cases hj0 : j < 0
    · exact ih j (by omega) hjl
    · have hp := parAt_lt h j.toNat
      have ihp := ih (parAt B j.toNat) (by omega) (by omega)
      rw [full_pos h (show 0 ≤ j by omega)]
      have e1 : ∀ c : Nat, c < B.length → (if parAt B c = (k : Int) then (if (c : Int) ∈ j :: full B (parAt B j.toNat) then f else 0) else 0)
          = (if c = j.toNat then (if parAt B j.toNat = (k : Int) then f else 0) else 0) + (if parAt B c = (k : Int) then (if (c : Int) ∈ full B (parAt B j.toNat) then f else 0) else 0) := by
        intro c _
        by_cases hc : c = j.toNat
        · subst hc
          have hn : ¬ ((j.toNat : Nat) : Int) ∈ full B (parAt B j.toNat) := fun q => by
            have := full_le h q
            omega
          have hm : ((j.toNat : Nat) : Int) ∈ j :: full B (parAt B j.toNat) := List.mem_cons.mpr (.inl (by omega))
          rw [if_pos hm, if_neg hn, if_pos rfl]
          split <;> omega
        · have hm : ((c : Int) ∈ j :: full B (parAt B j.toNat)) ↔ (c : Int) ∈ full B (parAt B j.toNat) := by
            constructor
            · intro q
              rcases List.mem_cons.mp q with q | q
              · omega
              · exact q
            · exact fun q => List.mem_cons.mpr (.inr q)
          rw [if_neg hc]
          simp only [hm]
          omega
      rw [sm_congr e1, sm_add, sm_one, if_pos (show j.toNat < B.length by omega)]
      by_cases hkj : (k : Int) = j
      · have hn : ¬ (k : Int) ∈ full B (parAt B j.toNat) := fun q => by
          have := full_le h q
          omega
        rw [if_neg hn] at ihp
        rw [if_neg (show ¬ (k : Int) = parAt B j.toNat by omega)] at ihp
        rw [if_pos (List.mem_cons.mpr (.inl hkj)), if_pos hkj, if_neg (show ¬ parAt B j.toNat = (k : Int) by omega)]
        omega
      · have hm : ((k : Int) ∈ j :: full B (parAt B j.toNat)) ↔ (k : Int) ∈ full B (parAt B j.toNat) := by
          constructor
          · intro q
            rcases List.mem_cons.mp q with q | q
            · exact absurd q hkj
            · exact q
          · exact fun q => List.mem_cons.mpr (.inr q)
        simp only [hm]
        rw [ihp, if_neg hkj]
        by_cases hq : (k : Int) = parAt B j.toNat
        · rw [if_pos hq, if_pos hq.symm]; omega
        · rw [if_neg hq, if_neg (fun z => hq z.symm)]; omega
theorem U_rec {B : List Bd} (h : WF B) (f : Nat → Int) {k : Nat} (hk : k < B.length) : U B f k = f k + sm B.length (fun c => if parAt B c = k then U B f c else 0) := by
  unfold U
  have e : ∀ j, j < B.length → (if (k : Int) ∈ full B (j : Int) then f j else 0) = (if j = k then f k else 0) + sm B.length (fun c => if parAt B c = k then (if (c : Int) ∈ full B j then f j else 0) else 0) := by
    intro j hj
    rw [ind_rec h (f j) k hk ((j : Int) + 1).toNat j (Nat.le_refl _) (by omega)]
    by_cases q : j = k
    · subst q; rw [if_pos rfl, if_pos rfl]
    · rw [if_neg q, if_neg (show ¬ (k : Int) = (j : Int) by omega)]
  rw [sm_congr e, sm_add, sm_one, if_pos hk, sm_swap]
  congr 1
  refine sm_congr fun c _ => ?_
  by_cases q : parAt B c = k
  · simp only [if_pos q]
  · simp only [if_neg q]
    exact sm_zero _
/-- the children from m on -/
def V' (B : List Bd) (f : Nat → Int) (m : Nat) (k : Nat) : Int := f k + sm B.length (fun c => if m ≤ c ∧ parAt B c = k then U B f c else 0)
theorem V_zero {B : List Bd} (h : WF B) (f : Nat → Int) {k : Nat} (hk : k < B.length) : V' B f 0 k = U B f k := by
  rw [U_rec h f hk]
  unfold V'
  congr 1
  exact sm_congr fun c _ => by simp
theorem V_own {B : List Bd} (h : WF B) (f : Nat → Int) {k : Nat} (hk : k < B.length) : V' B f (k + 1) k = U B f k := by
  rw [U_rec h f hk]
  unfold V'
  congr 1
  refine sm_congr fun c _ => ?_
  by_cases q : parAt B c = k
  · have := (parAt_lt h c).2
    rw [if_pos ⟨by omega, q⟩, if_pos q]
  · rw [if_neg (fun z => q z.2), if_neg q]
theorem V_all (B : List Bd) (f : Nat → Int) (k : Nat) : V' B f B.length k = f k := by
  unfold V'
  rw [sm_congr (g' := fun _ => 0) (fun c hc => if_neg (fun z => by omega)), sm_zero]
  omega
theorem V_step {B : List Bd} (f : Nat → Int) {m k : Nat} (hm : m < B.length) : V' B f m k = V' B f (m + 1) k + (if parAt B m = k then U B f m else 0) := by
  unfold V'
  have e : ∀ c, c < B.length → (if m ≤ c ∧ parAt B c = (k : Int) then U B f c else 0) = (if m + 1 ≤ c ∧ parAt B c = (k : Int) then U B f c else 0) + (if c = m then (if parAt B m = (k : Int) then U B f m else 0) else 0) := by
    intro c _
    by_cases q : c = m
    · subst q
      rw [if_neg (show ¬ (c + 1 ≤ c ∧ parAt B c = (k : Int)) from fun z => by omega), if_pos rfl]
      by_cases r : parAt B c = (k : Int)
      · rw [if_pos ⟨Nat.le_refl _, r⟩, if_pos r]; omega
      · rw [if_neg (fun z => r z.2), if_neg r]; omega
    · rw [if_neg q]
      by_cases r : m + 1 ≤ c ∧ parAt B c = (k : Int)
      · rw [if_pos r, if_pos ⟨by omega, r.2⟩]; omega
      · rw [if_neg r, if_neg (fun z => r ⟨by omega, z.2⟩)]; omega
  rw [sm_congr e, sm_add, sm_one, if_pos hm]
  omega
def usedL (B : List Bd) (f : Nat → Int) : List Int := (List.range B.length).map (U B f)
def fitsP (B : List Bd) (f : Nat → Int) : Prop := ∀ k, k < B.length → U B f k ≤ capAt B k
instance (B : List Bd) (f : Nat → Int) : Decidable (fitsP B f) := by unfold fitsP; infer_instance
end Fd

set_option autoImplicit true
set_option Elab.async false
set_option linter.all false
set_option maxRecDepth 100000
set_option maxHeartbeats 2000000
/-! Rules of my own: repr of data, a def that is called while no repr is under way, enumerate over a tuple. -/
namespace Fd
open PySem PySem.Spec PyProof.Rows L2

/-! ### a promise kept wherever no repr is under way -/
structure GOk (P : Program) (w : World) (K : PySem.W.Frag) (mg : Str → Option Value) (base : Heap) (k : Nat) (f : Addr) (fd : FuncData) (ps : List Str) (sp : Sp) : Prop where
  size : ∀ vs H Q E, sp vs H Q E → vs.length = ps.length
  go : ∀ (A : Around) (out : List Env) (s : Shared) (H : Hp) (ar : Args) (us : List Value) (vs : List V) (Q : VK) (E : XK), A.guards = some [] → Room k A → Env0 P w K mg base A out s H →
    BindsTo s fd ar (ps.zip us) → Vals vs us → sp vs H Q E → codeAny (model P w) A (.call (.ref f) ar) (CR CX0 out P w H s Q E) s

section
variable {P : Program} {w : World} {K : PySem.W.Frag} {mg : Str → Option Value} {base : Heap}
theorem gok_of {x qual : Str} {st : Stmt} {f : Addr} {fd : FuncData} {N ps : List Str} {k : Nat} {sp : Sp} (F : Fun K x qual st f fd) (S : FnScope N ps (defScope st))
    (size : ∀ vs H Q E, sp vs H Q E → vs.length = ps.length)
    (body : ∀ (cdv : Value) (A : Around) (out : List Env) (s : Shared) (H : Hp) (vs : List V) (Q : VK) (E : XK), A.guards = some [] →
      Room k (A.deeper (envOfC qual (defScope st) s.heap.objs.size f cdv)) → sp vs H Q E →
      ∃ t, PSs (cxOf CX0 P w K mg base N qual (defScope st) f cdv A out s H E).nox (defBody st) t ∧ t { nx := fun _ H' => Q .non H', rt := Q } (start N vs) H) :
    GOk P w K mg base (k + 1) f fd ps sp := by
  obtain ⟨c1, c2, c3, c4, c5, c6, cdv, c7, c8, rfl, look, code⟩ := F.ex
  refine ⟨size, fun A out s H ar us vs Q E hg hr e0 hb rel hsp => ?_⟩
  have kin : K.In s.heap := e0.mod.kin.keeps fun b o q => (e0.bs b o q).1
  have par : ∀ y ∈ ps.zip us, (defScope st).names.lookup y.1 = some .local ∨ ((defScope st).names.lookup y.1 = some .cell ∧ ((cellsFrom (s.heap.objs.size + 1) (defScope st).names []).lookup y.1).isSome = true) := by
    intro y hy
    have hp : y.1 ∈ ps := by
      obtain ⟨n, v⟩ := y
      exact (List.of_mem_zip hy).1
    exact (S.par y.1 hp).imp id fun q => ⟨q, PySem.W.cellsFrom_some _ _ _ (.inl q)⟩
  refine codeAny_call_function hr.depth (kin _ _ look) rfl S.co S.gen rfl (PySem.W.codeRec_of kin code) (hb _ _ _ _ ?_)
  refine wpAny_newFunctionEnv_cells S.kind par fun env he s1 inn => ?_
  subst he
  refine ⟨(e0.mod.nolimit.keeps fun b o q => (e0.bs b o q).1).keeps inn.toInCall.keep, codeAny_func ?_⟩
  obtain ⟨t, ht, hq⟩ := body cdv A out s H vs Q E hg (hr.deeper _) hsp
  have I := inv_start (CX := CX0) (E := E) S hr.hd e0 (size _ _ _ _ hsp) rel inn
  refine wpAny_mono (ht.nox.run [] s1 (start N vs) H _ I hq) (fun fl s' hs => ?_) fun _ _ hs => hs
  cases fl with
  | ret u => exact let ⟨v, _, H', J, rv, q⟩ := hs; ⟨v, H', J.os, J.bare, J.base, J.hok, rv, q⟩
  | next => exact let ⟨_, H', J, q⟩ := hs; ⟨V.non, H', J.os, J.bare, J.base, J.hok, rfl, q⟩
  | brk => exact let ⟨_, _, _, q⟩ := hs; False.elim q
  | cont => exact let ⟨_, _, _, q⟩ := hs; False.elim q
end
section
variable {X : Cx} {k : Nat} {f : Addr} {fd : FuncData} {ps : List Str} {sp : Sp} {x : Str} {p pos : Pos} {e : Expr} {es : List Expr} {t : TA}
theorem pe_callG (F : GOk X.prog X.w X.K X.mg X.base k f fd ps sp) (hgu : X.A.guards = some []) (hr : Room k X.A) (hg : Gl X x) (hm : X.mg x = some (.ref f)) (hk : PySem.W.keepIn X.K (.ref f) = true) (hb : Binds X.K fd ps [])
    (ha : PA X (e :: es) t) (hdb : (x == ("__debug__" : Str)) = false := by decide) (he : starEach (e :: es) X.env = (false, eval e X.env) :: starEach es X.env := by rfl)
    (hpl : (backTo pos (starEach es X.env)).any (·.1) = false := by rfl) : PE X (.Call (.Name x p) (e :: es) [] pos) (tCall sp [] E0 t) := by
  constructor
  intro pins s σ H Q I h
  refine wpAny_Call_Name_kw (ld_glob I hg hm ?_ hdb)
  refine PySem.W.callWith_K (h₀ := X.base) I.ok.mod.kin hk (thn (ha.run pos pins s σ H _ I h) fun us s1 hu => ?_) he hpl
  obtain ⟨vs, H1, I1, rel, q⟩ := hu
  have q' : sp vs H1 Q E0 := by rw [List.append_nil] at q; exact q
  have hl : us.length = ps.length := by rw [← rel.length]; exact F.size _ _ _ _ q'
  have bd := hb s1 us I1.kIn (by rw [List.append_nil]; exact hl)
  rw [List.append_nil] at bd
  refine ⟨I1.kIn, wpAny_call (codeAny_mono (F.go X.A X.stack s1 H1 ⟨us, []⟩ us vs Q E0 hgu hr I1.env0 bd rel q') fun r s' hq => ?_)⟩
  cases r with
  | error _ => exact False.elim hq
  | ok fl =>
    cases fl with
    | ret u => exact I1.after hq
    | next => exact False.elim hq
    | brk => exact False.elim hq
    | cont => exact False.elim hq

/-! ### repr -/
/-- data whose text is short: ints below 10^12 -/
def smallD (d : PyData) : Prop := d.showable = true ∧ d.hasDict = false ∧ d.leavesShort 13 = true ∧ d.bulk ≤ 2 ^ 20 ∧ d.depth ≤ 60
theorem call_repr_dp (hgu : X.A.guards = some []) (hu : X.A.units + 64 < cLine) : CallR X (.builtin "repr") (fun xs H Q => ∃ v d, xs = [v] ∧ Dp X.K H v d ∧ smallD d ∧ Q (.str d.shown) H) := by
  intro pins s σ H xs us Q I r h
  obtain ⟨v, d, rfl, dp, ⟨sh, nd, lv, bk, de⟩, q⟩ := h
  obtain ⟨u, rfl, ru⟩ := vals1 r
  have sz : d.shown.length ≤ sizeLine := PyData.shown_fits_bulk (by decide) (Nat.le_refl 13) lv bk
  obtain ⟨as, rd⟩ := Dp.reads I d v u dp ru
  cases dp with
  | non => obtain rfl : u = Value.none := ru; exact PySem.P.repr_of_none ⟨.str _, H, I.tok _, ⟨_, rfl⟩, q⟩
  | bl b => obtain rfl : u = Value.bool b := ru; exact PySem.P.repr_of_bool ⟨.str _, H, I.tok _, ⟨_, rfl⟩, q⟩
  | int i =>
    obtain ⟨tk, rfl⟩ := ru
    exact PySem.P.repr_of_int (of_decide_eq_true sh) ⟨.str _, H, I.tok _, ⟨_, rfl⟩, q⟩
  | str z =>
    obtain ⟨tk, rfl⟩ := ru
    exact PySem.P.repr_of_str ⟨.str _, H, I.tok _, ⟨_, rfl⟩, q⟩ sz
  | lst _ _ =>
    obtain rfl : u = Value.ref _ := ru
    exact repr_of_reads' rd sh (PyData.noDict_hsm nd) hgu (by omega) (fun _ _ z => z) (fun h' u tk hk => ⟨.str _, H, I.kept hk, ⟨_, rfl⟩, q⟩) sz
  | tup _ _ =>
    obtain rfl : u = Value.ref _ := ru
    exact repr_of_reads' rd sh (PyData.noDict_hsm nd) hgu (by omega) (fun _ _ z => z) (fun h' u tk hk => ⟨.str _, H, I.kept hk, ⟨_, rfl⟩, q⟩) sz
end
end Fd

set_option autoImplicit true
set_option Elab.async false
set_option linter.all false
set_option maxRecDepth 100000
set_option maxHeartbeats 2000000
/-! enumerate over a tuple -/
namespace Fd
open PySem PySem.Spec PyProof.Rows L2 RZ

theorem meets_enumT (l : Addr) (items : Array Value) (n : Nat) (o0 : Obj) (hc : o0.cls = .type "tuple") (hd : o0.data = .seq items n) :
    Meets (Builtin.«enumerate.__new__» ⟨[.type "enumerate", .ref l], []⟩) (fun _ R s => s.heap.get? l = some o0 ∧
      R (.ok (.ret (.ref (s.heap.push { cls := .type "tuple_iterator", data := .fields #[.ref l, .int 0 0] }).objs.size)))
        { s with heap := (s.heap.push { cls := .type "tuple_iterator", data := .fields #[.ref l, .int 0 0] }).push { cls := .type "enumerate", data := .fields #[.none, .bool false, .ref s.heap.objs.size, rawInt 0, .none, .none] } }) :=
  .of_wp fun prog w A R s h => by
    obtain ⟨hp, g, d, tk, os⟩ := s; obtain ⟨hl, h⟩ := h
    have hsub := sub_enumerate
    have hT : Heap.IsTuple (Shared.heap ⟨hp, g, d, tk, os⟩) l items := ⟨_, hl, hc, n, hd⟩
    wp_walk using AutoSeq1.wpAny_loadPart' hl
    refine wpAny_stack_any fun st => wpAny_pure ?_
    split
    · rename_i c _ _ _ _ _
      cases (c == Value.type "enumerate")
      · wp_walk using AutoSeq1.wpAny_loadPart' hl, wpAny_pyIter_tuple hT
        exact ⟨_, rfl, h⟩
      · wp_walk using AutoSeq1.wpAny_loadPart' hl, wpAny_pyIter_tuple hT
        exact ⟨_, rfl, h⟩
    · wp_walk using AutoSeq1.wpAny_loadPart' hl, wpAny_pyIter_tuple hT
      exact ⟨_, rfl, h⟩
section
variable {prog : Program} {w : World} {A : Around} {E : Value → Shared → Prop} {s : Shared}
theorem enumT_new {l : Addr} {items : Array Value} {Q : Value → Shared → Prop} (hT : IsTup s.heap l items)
    (h : ∀ h', IsEnum h' (s.heap.objs.size + 1) s.heap.objs.size 0 .none → h'.IsTupleIter s.heap.objs.size l 0 → h'.objs.size = s.heap.objs.size + 2 →
      (∀ b o, s.heap.get? b = some o → h'.get? b = some o) → Q (.ref (s.heap.objs.size + 1)) { s with heap := h' }) :
    wpAny (model prog w) A (call (.type "enumerate") [.ref l]) Q E s := by
  obtain ⟨ob, hl, hc, n, hd⟩ := hT
  refine callType_new F.called_enumerate (by decide) (F.typeCall_enumerate_1 _) (F.newCall_enumerate_1 _) (fun obj => F.args_object_init_2 obj _) F.entry_enumerate_new
    (meets_enumT l items n ob hc hd) ⟨hl, ?_⟩
  generalize h1 : s.heap.push { cls := .type "tuple_iterator", data := .fields #[.ref l, .int 0 0] } = g1
  have hz : g1.objs.size = s.heap.objs.size + 1 := by rw [← h1]; exact Heap.size_push ..
  have hi : g1.get? s.heap.objs.size = some { cls := .type "tuple_iterator", data := .fields #[.ref l, .int 0 0] } := by rw [← h1]; exact Heap.get?_push_size _ rfl
  have hk : ∀ b o, s.heap.get? b = some o → g1.get? b = some o := fun b o q => by rw [← h1]; exact Heap.get?_push_of_some _ q
  have he : IsEnum (g1.push { cls := .type "enumerate", data := .fields #[.none, .bool false, .ref s.heap.objs.size, rawInt 0, .none, .none] }) (s.heap.objs.size + 1) s.heap.objs.size 0 .none := by
    have q := Heap.get?_push_size g1 (o := { cls := .type "enumerate", data := .fields #[.none, .bool false, .ref s.heap.objs.size, rawInt 0, .none, .none] }) rfl
    rw [hz] at q
    exact q
  rw [hz]
  exact ⟨⟨_, he, rfl⟩, h _ he ⟨_, Heap.get?_push_of_some _ hi, rfl, rfl⟩ (by rw [Heap.size_push, hz]) fun b o q => Heap.get?_push_of_some _ (hk b o q)⟩
end
/-- the tuple at a, each item in a new pair with its place -/
def IteT (K : PySem.W.Frag) (a : Addr) : It :=
  ⟨fun i H => ∃ (xs : List V) (x : V), SqT K H a xs ∧ xs[i]? = some x,
   fun i H v H' => ∃ T x, v = .ref T ∧ H T = none ∧ H' = upd H T (.tup [.int (i : Nat), x]) ∧ ∀ xs, SqT K H a xs → xs[i]? = some x,
   fun i H => ∃ xs : List V, SqT K H a xs ∧ xs.length ≤ i⟩
theorem turn_enumT {P : Program} {w : World} {K : PySem.W.Frag} {elts : List Expr} {kk : Nat} {tpos : Pos} (a e it : Addr) (hea : a ≠ e) (hia : a ≠ it) :
    Turn P w K (.Tuple elts kk tpos) (IteT K a) [e, it] e (fun i h => (∃ old, IsEnum h e it ((i : Nat) : Int) old) ∧ h.IsTupleIter it a i ∧ e ≠ it) where
  mem := List.mem_cons_self
  obj := by
    intro i h st b hb
    obtain ⟨⟨old, he⟩, ⟨ob, ho, hc, hd⟩, _⟩ := st
    rcases List.mem_cons.mp hb with z | hb
    · rw [z]
      exact ⟨_, he, fun v q => nomatch q⟩
    · rcases List.mem_cons.mp hb with z | hb
      · rw [z]
        exact ⟨ob, ho, fun v q => by rw [hd] at q; cases q⟩
      · cases hb
  keep := fun i h h' st k => ⟨let ⟨old, he⟩ := st.1; ⟨old, k e (by simp) _ he⟩, st.2.1.at fun o q => k it (by simp) o q, st.2.2⟩
  item := by
    intro X hP hw hK hc i pins s σ H E I hf st hg
    subst hP hw hK
    obtain ⟨⟨old, he⟩, hit, hne⟩ := st
    obtain ⟨xs, x, hq, hx⟩ := hg
    obtain ⟨its, rv, p, hz⟩ := I.tuple hq
    obtain ⟨u, hu, ru⟩ := rv.get hx
    have hin : i < its.toArray.size := by
      have q := (List.getElem?_eq_some_iff.mp hu).1
      simpa using q
    have lE : e < s.heap.objs.size := Heap.lt_size he
    have lI : it < s.heap.objs.size := let ⟨_, q, _⟩ := hit; Heap.lt_size q
    refine wpAny_pyNext_enum_itemD (Draws.tuple (A := X.A.in1) (prog := X.prog) (w := X.w) (I.ok.hd hc) it a hia its.toArray) he ⟨hit, p⟩ hin hne (by simp [hne, hea.symm]) fun y h' tk hy ho hst hT hsz hk => ?_
    have ey : y = u := by
      have q : its.toArray[i]? = some u := by simpa using hu
      exact Option.some.inj (hy.symm.trans q)
    subst ey
    refine ⟨_, rfl, wpAny_letOwnedTupleGo_enum (s := { s with heap := h', toks := tk + 1 }) ho fun h'' he' sb => ?_⟩
    have nT : s.heap.objs.size ≠ e := Nat.ne_of_gt lE
    have tup2 := (sb.2 _ nT).trans hT
    have new : ObjOk X.prog X.w (upd H s.heap.objs.size (.tup [.int (i : Nat), x])) h'' s.heap.objs.size (.tup [.int (i : Nat), x]) :=
      ⟨by show 2 ≤ sizeLine; decide, [.int i tk, y], .cons ⟨_, rfl⟩ (.cons ru .nil), ⟨_, tup2, rfl, _, rfl⟩⟩
    have I1 : Inv X pins σ (upd H s.heap.objs.size (.tup [.int (i : Nat), x])) { s with heap := h'', toks := tk + 1 } := by
      refine I.turnedNew (ch := [e, it]) (fun b ob hb q => ?_) hf (Nat.le_refl _) new
      have b1 : b ≠ e := fun z => hb (by rw [z]; exact List.mem_cons_self)
      have b2 : b ≠ it := fun z => hb (by rw [z]; exact List.mem_cons_of_mem _ List.mem_cons_self)
      exact (sb.2 b b1).trans (hk b ob b1 b2 q)
    refine ⟨.ref s.heap.objs.size, _, I1, rfl, ⟨_, x, rfl, I.hok.fresh (Nat.le_refl _), rfl, fun ys hy' => by rw [I.tuple_inj hy' hq]; exact hx⟩, ⟨⟨y, ?_⟩, hst.1.at fun o q => (sb.2 it hne.symm).trans q, hne⟩, fun b hb => ?_⟩
    · rw [show ((i + 1 : Nat) : Int) = (i : Int) + 1 by omega]
      exact he'
    · have lb : b < s.heap.objs.size := by
        rcases List.mem_cons.mp hb with z | hb
        · rw [z]; exact lE
        · rcases List.mem_cons.mp hb with z | hb
          · rw [z]; exact lI
          · cases hb
      rw [upd_ne (Nat.ne_of_lt lb)]
      exact (hf b hb).1
  done := by
    intro X hP hw hK hc i pins s σ H E I hf st hg
    subst hP hw hK
    obtain ⟨⟨old, he⟩, hit, hne⟩ := st
    obtain ⟨xs, hq, hx⟩ := hg
    obtain ⟨its, rv, p, hz⟩ := I.tuple hq
    obtain ⟨f0, f1, f2, f3, f4, f5⟩ := hf it (by simp)
    have hl := rv.length
    have hT : s.TypeIs (.ref e) "enumerate" := ⟨_, he, rfl⟩
    unfold pyNext
    refine wpAny_bind (wpAny_attempt (wpAny_callSpecial?_slot (name := Str.ofString "__next__") hT F.slot_enumerate_next (wpAny_call_entry F.slot_enumerate_next hT F.entry_enumerate_next ?_ (F.args_enumerate_next_1 _))))
    show wpAny _ _ (field (.ref e) 2 >>= _) _ _ _
    refine wpAny_bind (wpAny_field he rfl (x := .ref it) rfl ?_)
    refine wpAny_bind (wpAny_nextOf_tuple_end (I.ok.hd hc) hit p (by simp; omega) fun h' ex eb hx' => ?_)
    obtain ⟨oo, ho, hcl⟩ := hx'
    refine wpAny_bind (wpAny_isInstance (T := "StopIteration") (b := true) ⟨oo, ho, hcl⟩ isSubtype_stop ?_)
    exact wpAny_pure ⟨rfl, I.turned (t' := s.toks) (fun b o hb q => eb b o hb q) f0 f1 f3 f4 f5⟩
  self := fun A i s Q E st h => let ⟨⟨_, he⟩, _⟩ := st; wpAny_pyIter_enum he h
def iEnumT (K : PySem.W.Frag) (ta : TA) : TI := fun σ H R => ta σ H fun vs H1 => ∃ a xs, vs = [.ref a] ∧ SqT K H1 a xs ∧ R (IteT K a) H1
theorem pi_enumT {X : Cx} {e : Expr} {ta : TA} {p pos tpos : Pos} {elts : List Expr} {kk : Nat} (hg : Gl X "enumerate") (hm : X.mg "enumerate" = none) (ha : PA X [e] ta) (hs : starEach [e] X.env = [(false, eval e X.env)] := by rfl) :
    PI X (.Tuple elts kk tpos) (.Call (.Name "enumerate" p) [e] [] pos) (iEnumT X.K ta) := by
  constructor
  intro pins s σ H R I h
  refine Call_ (ld_blt I hg hm boot_enumerate (PyProof.Rows.callWith_type1 (thn (ha.run pos pins s σ H _ I h) fun us s1 hv => ?_) hs rfl))
  obtain ⟨vs, H1, I1, r1, a, xs, rfl, hq, q⟩ := hv
  obtain ⟨u, rfl, ru⟩ := vals1 r1
  obtain rfl : u = Value.ref a := ru
  obtain ⟨its, rv, tu, hz⟩ := I1.tuple hq
  refine enumT_new tu fun h' he hit hsz hk => wpAny_pyIter_enum he ?_
  have la : a < s1.heap.objs.size := tu.lt
  refine ⟨s1.heap.objs.size + 1, [s1.heap.objs.size + 1, s1.heap.objs.size], _, _, H1, rfl, I1.kept (t' := s1.toks) hk, turn_enumT a (s1.heap.objs.size + 1) s1.heap.objs.size (Nat.ne_of_lt (Nat.lt_succ_of_lt la)) (Nat.ne_of_lt la), ⟨⟨.none, he⟩, hit, Nat.succ_ne_self _⟩, fun b hb => ?_, q⟩
  have lb : s1.heap.objs.size ≤ b := by
    rcases List.mem_cons.mp hb with z | hb
    · rw [z]; exact Nat.le_succ _
    · rcases List.mem_cons.mp hb with z | hb
      · rw [z]; exact Nat.le_refl _
      · cases hb
  exact I1.fpOk lb (I1.hok.fresh lb)
theorem walk_enumT {K : PySem.W.Frag} {a : Addr} {xs : List V} : Walk (IteT K a) xs.length (fun H => SqT K H a xs) (YPair (fun i => some (.int (i : Nat))) (fun i => xs[i]?)) := by
  refine ⟨fun i _ hi q => ⟨xs, xs[i], q, by simp [hi]⟩, fun _ q => ⟨xs, q, Nat.le_refl _⟩, fun i H v H' _ q y => ?_⟩
  obtain ⟨T, x, h1, h2, h3, h4⟩ := y
  exact ⟨T, .int (i : Nat), x, h1, h2, h3, rfl, h4 xs q⟩
theorem walk_zipT {K : PySem.W.Frag} {a b : Addr} {xs ys : List V} {n : Nat} (hn : n = xs.length) (hn2 : n = ys.length) : Walk (ItzT K a b) n (fun H => SqT K H a xs ∧ SqT K H b ys) (YPair (fun i => xs[i]?) (fun i => ys[i]?)) := by
  refine ⟨fun i _ hi q => ?_, fun _ q => ⟨xs, ys, q.1, q.2, by omega⟩, fun i H v H' _ q y => ?_⟩
  · have h1 : i < xs.length := by omega
    have h2 : i < ys.length := by omega
    exact ⟨xs, ys, xs[i], ys[i], q.1, q.2, by simp [h1], by simp [h2]⟩
  · obtain ⟨T, x, z, h1, h2, h3, h4, h5⟩ := y
    exact ⟨T, x, z, h1, h2, h3, h4 xs q.1, h5 ys q.2⟩
end Fd

set_option autoImplicit true
set_option Elab.async false
set_option linter.all false
set_option maxRecDepth 100000
set_option maxHeartbeats 2000000
/-! The head of a law whose promise holds where no repr is under way. -/
namespace Fd
open PySem PySem.Spec PyProof.Rows L2

/-- what is tracked at the law's entry: the script alone, unless it is an object of the top -/
def entryH (K : PySem.W.Frag) (a : Addr) (o : Obj) (xs : List V) : Hp := fun b => if b = a ∧ K.lookup a = none then some (.frz o (.lst xs)) else none

theorem law_callG {P : Program} {w : World} {K : PySem.W.Frag} {mg mb : Str → Option Value} {k : Nat} {fa a : Addr} {fd : FuncData} {x : Str} {sp : Sp} {s1 : Shared} {vs : List Value} {ns : List Int}
    (kin : K.In s1.heap) (gl : s1.heap.Ns mainGlobals mg) (bl : s1.heap.Ns builtinsNs mb) (bl2 : ∀ x : Str, x ≠ "__name__" → mb x = bootBuiltins x) (lim : s1.heap.NoLimit) (gens : s1.gens = #[])
    (ha : s1.heap.get? a = some { cls := .type "list", data := .seq vs.toArray }) (hi : IntsAre vs ns) (sz : ns.length ≤ sizeLine) (room : Room k callerA)
    (F : ∀ base : Heap, K.In base → base.Ns mainGlobals mg → GOk P w K mg base k fa fd [x] sp) (bind : ∀ (s : Shared) (u : Value), BindsTo s fd ⟨[u], []⟩ [(x, u)])
    (hsp : ∀ H : Hp, Only H → SqL K H a (ns.map V.int) → sp [.ref a] H (fun v _ => v = .bl true) fun _ _ _ => False) :
    codeAny (model P w) callerA (.call (.ref fa) ⟨[.ref a], []⟩) (fun r s' => r = .ok (.ret (.bool true)) ∧ OldK s1.heap s'.heap ∧ s'.os = s1.os ∧ AllBare s'.gens) s1 := by
  have rel := vals_ints hi
  have lenV := hi.length
  generalize hH : entryH K a { cls := .type "list", data := .seq vs.toArray } (ns.map V.int) = H
  have at_ : ∀ b u, H b = some u → b = a ∧ K.lookup a = none ∧ u = .frz { cls := .type "list", data := .seq vs.toArray } (.lst (ns.map V.int)) := by
    intro b u q
    rw [← hH] at q
    unfold entryH at q
    by_cases c : b = a ∧ K.lookup a = none
    · rw [if_pos c] at q
      exact ⟨c.1, c.2, (Option.some.inj q).symm⟩
    · rw [if_neg c] at q
      cases q
  have only : Only H := fun b => by
    cases q : H b with
    | none => exact .inl rfl
    | some u => exact .inr ⟨_, _, by rw [(at_ b u q).2.2]⟩
  have hok : HOk P w H s1.heap := by
    intro b u q
    obtain ⟨rfl, _, rfl⟩ := at_ b u q
    exact ⟨ha, by rw [List.length_map]; exact sz, vs, _, rel, ha⟩
  have seq : SqL K H a (ns.map V.int) := by
    cases hk : K.lookup a with
    | some o =>
      have e := kin a o hk
      rw [ha] at e
      cases e
      exact .inr ⟨_, vs.toArray, _, hk, rfl, rfl, rfl, by rw [List.size_toArray, lenV]; exact sz, by simpa using rel⟩
    | none =>
      refine .inl (.inr ⟨{ cls := .type "list", data := .seq vs.toArray }, ?_⟩)
      rw [← hH]
      exact if_pos ⟨rfl, hk⟩
  have keep : ∀ {b : Addr} {o : Obj}, s1.heap.get? b = some o → H b = none → (hidT s1.heap H).get? b = some o := fun q n => hidT_get q n
  have dictFree : ∀ {b : Addr} {o : Obj} {es : Array DictEntry} {ep : Nat}, s1.heap.get? b = some o → o.data = .dict es ep → H b = none := by
    intro b o es ep q d
    cases z : H b with
    | none => rfl
    | some u =>
      obtain ⟨rfl, _, _⟩ := at_ b u z
      rw [ha] at q
      cases q
      cases d
  have ns_ : ∀ {b : Addr} {m : Str → Option Value}, s1.heap.Ns b m → (hidT s1.heap H).Ns b m := by
    rintro b m ⟨o, es, ep, q, d, rest⟩
    exact ⟨o, es, ep, keep q (dictFree q d), d, rest⟩
  have kb : K.In (hidT s1.heap H) := by
    intro b o q
    refine keep (kin b o q) ?_
    cases z : H b with
    | none => rfl
    | some u =>
      obtain ⟨rfl, n, _⟩ := at_ b u z
      rw [n] at q
      cases q
  have md : Mod K mg (hidT s1.heap H) := ⟨kb, ns_ gl, ⟨mb, ns_ bl, bl2⟩, by obtain ⟨mc, q1, q2⟩ := lim; exact ⟨mc, ns_ q1, q2⟩⟩
  have e0 : Env0 P w K mg (hidT s1.heap H) callerA [] s1 H :=
    ⟨rfl, md, fun _ _ q => of_hidT q, Nat.le_of_eq (hidT_size _ _), trivial, (fun b hb => nomatch (show b ∈ ([] : List Addr) from hb)), hok, .of_eq gens⟩
  refine codeAny_mono ((F _ kb (ns_ gl)).go callerA [] s1 H ⟨[.ref a], []⟩ [.ref a] [.ref a] _ _ rfl room e0 (bind s1 (.ref a)) (.cons rfl .nil) (hsp H only seq)) fun r s' h => ?_
  cases r with
  | error e => exact False.elim h
  | ok fl =>
    cases fl with
    | next => exact False.elim h
    | brk => exact False.elim h
    | cont => exact False.elim h
    | ret u =>
      obtain ⟨v, H', os, bare, un, hok', ru, rfl⟩ := h
      obtain rfl : u = Value.bool true := ru
      refine ⟨rfl, OldK.of_keep fun b o q => ?_, os, bare⟩
      cases z : H b with
      | none => exact un.keep b o q z (fun c => nomatch (show b ∈ ([] : List Addr) from c)) (fun c => nomatch c)
      | some t =>
        obtain ⟨rfl, _, rfl⟩ := at_ b t z
        have z2 := (hok' b _ (un.frzs b _ _ z)).1
        rw [ha] at q
        cases q
        exact z2

theorem walk_ofG {l : PySem.W.OpenLaw} {n k : Nat} {q : Program} {loose : List Str} {XP : (Str → Option Value) → Heap → Prop} {YP : World → Heap → Prop} {d : DefRec} {K : Params → PySem.W.Frag} {sp : World → Sp} {x : Str}
    (hn : l.most = some n) (hn2 : n ≤ sizeLine) (hdf : d.params.defaults = []) (room : Room k callerA) (hY : ∀ (w : World) (h : Heap), YP w h → (K w.params).In h)
    (F : ∀ (w : World) (mg : Str → Option Value) (fa : Addr) (h : Heap), (K w.params).In h → h.Ns mainGlobals mg → mg d.name = some (.ref fa) →
      ∃ fd : FuncData, (∀ (s : Shared) (u : Value), BindsTo s fd ⟨[u], []⟩ [(x, u)]) ∧ ∀ base : Heap, (K w.params).In base → base.Ns mainGlobals mg → GOk l.prog w (K w.params) mg base k fa fd [x] (sp w))
    (hsp : ∀ (w : World) (H : Hp) (a : Addr) (ns : List Int), ns.length ≤ n → Only H → SqL (K w.params) H a (ns.map V.int) → sp w [.ref a] H (fun v _ => v = .bl true) fun _ _ _ => False) :
    PySem.W.WalkO q loose XP YP l.row.toRowW d [] (fun f vs => PySem.call f vs) := by
  refine Att.attach_call hn hdf fun w s0 s1 mg mb fa o pm cd doc a vs ns G Y ho hd hcd hmg hobj hints hlen hgens => ?_
  obtain ⟨fd, hb, hF⟩ := F w mg fa _ (hY w _ Y) G.T.g hmg
  exact law_callG (hY w _ Y) G.T.g G.T.b G.T.builtins G.T.nolimit hgens hobj hints (Nat.le_trans hlen hn2) room hF hb fun H hO hS => hsp w H a ns hlen hO hS
end Fd

set_option autoImplicit true
set_option Elab.async false
set_option linter.all false
set_option maxRecDepth 100000
set_option maxHeartbeats 2000000
/-! What the defs speak of: ints on the heap, budgets on the heap. -/
namespace Fd
open PySem PySem.Spec PyProof.Rows L2

/-- xs[i], as an augmented store reads it -/
theorem get_list {X : Cx} : PGet X (fun o i H Q => ∃ (p : Addr) (xs : List V) (k : Nat) (v : V), o = .ref p ∧ i = .int (k : Nat) ∧ SqL X.K H p xs ∧ xs[k]? = some v ∧ Q v H) := by
  intro pins s σ H o i ov iv Q I ro ri h
  obtain ⟨p, xs, k, v, rfl, rfl, hq, hx, q⟩ := h
  cases ro
  obtain ⟨t, rfl⟩ := ri
  obtain ⟨its, r, pl, hz⟩ := I.list hq
  obtain ⟨w, ew, rw'⟩ := r.get hx
  have hk : k < xs.length := (List.getElem?_eq_some_iff.mp hx).1
  have hn := line63
  exact wpAny_getItem_list pl.isList (by omega) (by omega) (by simpa using ew) ⟨v, H, I, rw', q⟩

/-- rules with the written part named (within a comprehension's block) -/
theorem ixT {X : Cx} {K : PySem.W.Frag} (h : X.K = K) : IxR X (rIxT K) := h ▸ ix_tup
theorem ixL {X : Cx} {K : PySem.W.Frag} (h : X.K = K) : IxR X (rIxL K) := h ▸ ix_list
theorem inSeq {X : Cx} {K : PySem.W.Frag} (h : X.K = K) : OpR X (compareOp .In) (rIn K false) := h ▸ op_in_seq
/-- tuples, and tuples that are known to the letter -/
inductive TupV
  | t (xs : List V)
  | f (o : Obj) (xs : List V)
def TupV.ho : TupV → HO
  | .t xs => .tup xs
  | .f o xs => .frz o (.tup xs)
/-- tuples stay -/
structure Ts (H H' : Hp) : Prop where
  all : ∀ b (u : TupV), H b = some u.ho → H' b = some u.ho
theorem Ts.tup {H H' : Hp} (t : Ts H H') : ∀ b xs, H b = some (.tup xs) → H' b = some (.tup xs) := fun b xs h => t.all b (.t xs) h
theorem Ts.fz {H H' : Hp} (t : Ts H H') {b : Addr} {o : Obj} {xs : List V} (h : H b = some (.frz o (.tup xs))) : H' b = some (.frz o (.tup xs)) := t.all b (.f o xs) h
instance {H H' : Hp} : CoeFun (Ts H H') (fun _ => ∀ b xs, H b = some (.tup xs) → H' b = some (.tup xs)) := ⟨Ts.tup⟩
theorem Ts.refl (H : Hp) : Ts H H := ⟨fun _ _ h => h⟩
theorem Ts.trans {H H1 H2 : Hp} (a : Ts H H1) (b : Ts H1 H2) : Ts H H2 := ⟨fun c xs h => b.all c xs (a.all c xs h)⟩
theorem Ts.of {H H' : Hp} (s : Same H H') : Ts H H' := ⟨fun b xs h => s b _ h⟩
theorem Ts.upd {H : Hp} {p : Addr} {o : HO} (h : ∀ u : TupV, H p ≠ some u.ho) : Ts H (upd H p o) := ⟨fun b xs e => by
  have n : b ≠ p := fun z => h xs (z ▸ e)
  rw [upd_ne n]; exact e⟩
theorem Ts.new {H : Hp} {p : Addr} {o : HO} (h : H p = none) : Ts H (L2.upd H p o) := Ts.upd fun xs q => by rw [h] at q; cases q
/-- what is read of a tuple that is known to the letter -/
theorem sqF {K : PySem.W.Frag} {H : Hp} {a : Addr} {o : Obj} {xs : List V} (h : H a = some (.frz o (.tup xs))) : SqT K H a xs := .inl (.inr ⟨o, h⟩)
theorem fz_inj {o o' : Obj} {xs ys : List V} (h : some (HO.frz o (.tup xs)) = some (HO.frz o' (.tup ys))) : xs = ys := by
  injection h with h
  injection h with _ h
  injection h
/-- the object of such a tuple, without a dict of its own -/
abbrev FO := { o : Obj // o.dict = none }
open Classical in
noncomputable def fO (H : Hp) (s : Addr) : FO := match H s with
  | some (.frz o _) => if h : o.dict = none then ⟨o, h⟩ else ⟨{ cls := .none, data := .fields #[] }, rfl⟩
  | _ => ⟨{ cls := .none, data := .fields #[] }, rfl⟩
theorem fO_of {H : Hp} {s : Addr} {o : Obj} {u : HO} (h : H s = some (.frz o u)) (d : o.dict = none) : (fO H s).1 = o := by
  unfold fO
  rw [h]
  dsimp only
  rw [dif_pos d]
/-- all is as it was but what stands at x -/
def SmB (x : Addr) (H H' : Hp) : Prop := ∀ b o, b ≠ x → H b = some o → H' b = some o
theorem SmB.of {x : Addr} {H H' : Hp} (s : Same H H') : SmB x H H' := fun b o _ h => s b o h
theorem SmB.refl (x : Addr) (H : Hp) : SmB x H H := fun _ _ _ h => h
theorem SmB.trans {x : Addr} {H H1 H2 : Hp} (a : SmB x H H1) (b : SmB x H1 H2) : SmB x H H2 := fun c o n h => b c o n (a c o n h)
theorem SmB.upd {x : Addr} {H : Hp} {o : HO} : SmB x H (L2.upd H x o) := fun b u n e => by rw [upd_ne n]; exact e
theorem same_new {H : Hp} {p : Addr} {o : HO} (h : H p = none) : Same H (L2.upd H p o) := fun b x e => by
  rw [upd_ne (ne_of_none e h)]; exact e
/-- a store at what was not there at H0 -/
theorem same_upd' {H0 H : Hp} {p : Addr} {o : HO} (s : Same H0 H) (h : H0 p = none) : Same H0 (L2.upd H p o) := fun b x e => by
  rw [upd_ne (ne_of_none e h)]; exact s _ _ e
theorem free_of {H0 H : Hp} {p : Addr} (s : Same H0 H) (h : H p = none) : H0 p = none := s.free h

/-- ints, f 0, f 1, .. -/
def fl (n : Nat) (f : Nat → Int) : List Int := (List.range n).map f
theorem fl_len (n : Nat) (f : Nat → Int) : (fl n f).length = n := by simp [fl]
theorem fl_get {n : Nat} {f : Nat → Int} {i : Nat} (h : i < n) : (fl n f)[i]? = some (f i) := by simp [fl, h]
theorem fl_succ (n : Nat) (f : Nat → Int) : fl (n + 1) f = fl n f ++ [f n] := by simp [fl, List.range_succ]
theorem fl_congr {n : Nat} {f g : Nat → Int} (h : ∀ i, i < n → f i = g i) : fl n f = fl n g := by
  unfold fl
  exact List.map_congr_left fun i hi => h i (List.mem_range.mp hi)
theorem fl_set {n : Nat} {f : Nat → Int} {i : Nat} {x : Int} : (fl n f).set i x = fl n (fun j => if j = i then x else f j) := by
  apply List.ext_getElem?
  intro j
  by_cases hj : j < n
  · rw [fl_get hj]
    by_cases e : j = i
    · subst e
      rw [if_pos rfl, List.getElem?_set_self (by rw [fl_len]; exact hj)]
    · rw [if_neg e, List.getElem?_set_ne (Ne.symm e), fl_get hj]
  · rw [List.getElem?_eq_none (by rw [List.length_set, fl_len]; omega), List.getElem?_eq_none (by rw [fl_len]; omega)]
abbrev iv (l : List Int) : List V := l.map V.int
theorem iv_get {n : Nat} {f : Nat → Int} {i : Nat} (h : i < n) : (iv (fl n f))[i]? = some (.int (f i)) := by rw [List.getElem?_map, fl_get h]; rfl
theorem iv_len (n : Nat) (f : Nat → Int) : (iv (fl n f)).length = n := by rw [List.length_map, fl_len]
theorem iv_set {n : Nat} {f : Nat → Int} {i : Nat} {x : Int} : (iv (fl n f)).set i (.int x) = iv (fl n (fun j => if j = i then x else f j)) := by
  rw [← fl_set]
  exact List.map_set.symm
theorem iv_snoc (l : List Int) (x : Int) : iv (l ++ [x]) = iv l ++ [.int x] := by simp [iv]
theorem usedL_fl (B : List Bd) (f : Nat → Int) : usedL B f = fl B.length (U B f) := rfl

/-- budgets on the heap -/
def BudAt (H : Hp) (p : Addr) (B : List Bd) : Prop :=
  ∃ rs : List Addr, H p = some (.tup (rs.map V.ref)) ∧ rs.length = B.length ∧ ∀ (i : Nat) (b : Bd), B[i]? = some b → ∃ r, rs[i]? = some r ∧ H r = some (.tup [.str b.nm, .int b.cap, .int b.par])
theorem BudAt.ts {H H' : Hp} {p : Addr} {B : List Bd} (h : BudAt H p B) (t : Ts H H') : BudAt H' p B := by
  obtain ⟨rs, h1, h2, h3⟩ := h
  exact ⟨rs, t _ _ h1, h2, fun i b e => let ⟨r, e1, e2⟩ := h3 i b e; ⟨r, e1, t _ _ e2⟩⟩
theorem BudAt.same {H H' : Hp} {p : Addr} {B : List Bd} (h : BudAt H p B) (t : Same H H') : BudAt H' p B := h.ts (Ts.of t)
/-- the k-th budget's tuple -/
theorem BudAt.at {H : Hp} {p : Addr} {B : List Bd} (h : BudAt H p B) {k : Nat} (hk : k < B.length) :
    ∃ (xs : List V) (r : Addr), H p = some (.tup xs) ∧ xs.length = B.length ∧ atI xs (k : Int) = some (.ref r) ∧ xs[k]? = some (.ref r) ∧ H r = some (.tup [.str B[k].nm, .int B[k].cap, .int B[k].par]) := by
  obtain ⟨rs, h1, h2, h3⟩ := h
  obtain ⟨r, e1, e2⟩ := h3 k B[k] (List.getElem?_eq_getElem hk)
  have e3 : (rs.map V.ref)[k]? = some (.ref r) := by rw [List.getElem?_map, e1]; rfl
  exact ⟨_, r, h1, by rw [List.length_map, h2], atI_nat e3, e3, e2⟩
theorem BudAt.tup {H : Hp} {p : Addr} {B : List Bd} (h : BudAt H p B) : ∃ xs : List V, H p = some (.tup xs) ∧ xs.length = B.length := by
  obtain ⟨rs, h1, h2, _⟩ := h
  exact ⟨_, h1, by rw [List.length_map, h2]⟩
theorem parAt_get {B : List Bd} {k : Nat} (hk : k < B.length) : parAt B k = B[k].par := by
  unfold parAt
  rw [List.getElem?_eq_getElem hk]
theorem capAt_get {B : List Bd} {k : Nat} (hk : k < B.length) : capAt B k = B[k].cap := by
  unfold capAt
  rw [List.getElem?_eq_getElem hk]
end Fd

set_option autoImplicit false
set_option Elab.async false
set_option linter.all false
set_option maxRecDepth 100000
set_option maxHeartbeats 4000000
/-! texts as lists of signs; a text times a number; ljust with a sign to fill -/
namespace Fd
open PySem PySem.Spec PyProof.Rows L2
/-- the text of these signs -/
def tx (l : List Nat) : Str := ⟨l.toArray⟩
theorem tx_list (l : List Nat) : (tx l).cps.toList = l := rfl
theorem tx_len (l : List Nat) : (tx l).length = l.length := by unfold tx Str.length; simp
theorem tx_of (z : Str) : z = tx z.cps.toList := str_of_list rfl
theorem tx_eq {z : Str} {l : List Nat} (h : z.cps.toList = l) : z = tx l := str_of_list h
theorem tx_add (l m : List Nat) : tx l ++ tx m = tx (l ++ m) := by
  refine tx_eq ?_
  show ((tx l).cps ++ (tx m).cps).toList = _
  rw [Array.toList_append]
  rfl
theorem tx_inj {l m : List Nat} (h : tx l = tx m) : l = m := by
  have := congrArg (fun z : Str => z.cps.toList) h
  exact this
section
variable {X : L2.Cx}
def rRepS : R2 := fun x y H Q => ∃ (l : List Nat) (n : Int), x = .str (tx l) ∧ y = .int n ∧ -(2 ^ 63) ≤ n ∧ n < 2 ^ 63 ∧ l.length * n.toNat ≤ 1000000 ∧ Q (.str (tx (List.replicate n.toNat l).flatten)) H
theorem rep_fold (a : Array Nat) : ∀ n, ((List.replicate n a).foldl (· ++ ·) #[]).toList = (List.replicate n a.toList).flatten := by
  have key : ∀ (n : Nat) (b : Array Nat), ((List.replicate n a).foldl (· ++ ·) b).toList = b.toList ++ (List.replicate n a.toList).flatten := by
    intro n
    induction n with
    | zero => intro b; simp
    | succ n ih =>
      intro b
      rw [List.replicate_succ, List.foldl_cons, ih, List.replicate_succ]
      simp
  intro n
  rw [key]
  simp
theorem op_repS : OpR X (binaryOp .Mult) rRepS := by
  intro pins s σ H x y v u Q I rx ry h
  obtain ⟨l, n, rfl, rfl, h1, h2, hz, q⟩ := h
  obtain ⟨t, rfl⟩ := rx
  obtain ⟨t', rfl⟩ := ry
  have ll : (tx l).length = l.length := tx_len l
  refine P.mul_str (by rw [decide_eq_false (by omega), decide_eq_false (by omega)]; rfl) (fun n1 _ => ?_) (fun n1 _ => ?_) ?_
  · rw [ll]
    have h3 : (l.length : Int) * n ≤ 1000000 := by
      have : ((l.length * n.toNat : Nat) : Int) ≤ ((1000000 : Nat) : Int) := Int.ofNat_le.mpr hz
      rw [Int.natCast_mul, Int.toNat_of_nonneg (by omega)] at this
      exact this
    refine Int.not_lt.mpr ?_
    refine (Int.le_ediv_iff_mul_le (by omega)).mpr ?_
    omega
  · rw [ll]
    unfold Builtin.Str.tooLong
    have hs : 1000000 ≤ sizeLine := by decide
    refine decide_eq_false ?_
    omega
  · by_cases n1 : n < 1
    · rw [if_pos n1]
      rw [show n.toNat = 0 by omega] at q
      exact ⟨by decide, .str (tx []), H, I.tok _, ⟨_, rfl⟩, q⟩
    · rw [if_neg n1]
      by_cases c : (n == 1 || (tx l).length == 0) = true
      · rw [if_pos c]
        have e : (List.replicate n.toNat l).flatten = l := by
          rw [Bool.or_eq_true, beq_iff_eq, beq_iff_eq] at c
          rcases c with c | c
          · subst c; simp
          · rw [ll] at c
            have : l = [] := List.eq_nil_of_length_eq_zero c
            subst this
            simp
        rw [e] at q
        exact ⟨.str (tx l), H, I, ⟨_, rfl⟩, q⟩
      · rw [if_neg c]
        have e : (⟨(List.replicate n.toNat (tx l).cps).foldl (· ++ ·) #[]⟩ : Str) = tx (List.replicate n.toNat l).flatten := tx_eq (rep_fold _ _)
        rw [e]
        refine ⟨?_, .str (tx (List.replicate n.toNat l).flatten), H, I.tok _, ⟨_, rfl⟩, q⟩
        have hs : 1000000 ≤ sizeLine := by decide
        rw [tx_len]
        have : (List.replicate n.toNat l).flatten.length = l.length * n.toNat := by
          rw [List.length_flatten, List.map_replicate, List.sum_replicate_nat, Nat.mul_comm]
        omega
def rLjF : V → List V → Hp → VK → Prop := fun x xs H Q => ∃ (l : List Nat) (i : Int) (c : Nat), x = .str (tx l) ∧ xs = [.int i, .str (tx [c])] ∧ PadOk i = true ∧ Q (.str (tx (l ++ List.replicate (i.toNat - l.length) c))) H
theorem mt_ljustF : MtR X "str.ljust" rLjF := by
  intro pins s σ H x xs v us Q I rx rs h
  obtain ⟨l, i, c, rfl, rfl, hp, h⟩ := h
  obtain ⟨t, rfl⟩ := rx
  cases rs with
  | cons r1 rs =>
    cases rs with
    | cons r2 rs =>
      cases rs
      obtain ⟨u, rfl⟩ := r1
      obtain ⟨z, rfl⟩ := r2
      refine ljust_fill hp (by rw [tx_len]; rfl) fun t' k => ?_
      have e : Txt.ljustF (tx l) i ((tx [c]).cps.getD 0 0) = tx (l ++ List.replicate (i.toNat - l.length) c) := by
        refine tx_eq ?_
        rw [ljustF_list, tx_len]
        rfl
      rw [e]
      exact ⟨.str (tx (l ++ List.replicate (i.toNat - l.length) c)), H, I.tok k, ⟨_, rfl⟩, h⟩
end
end Fd

set_option autoImplicit false
set_option Elab.async false
set_option linter.all false
set_option maxRecDepth 100000
set_option maxHeartbeats 4000000
/-! texts sign by sign -/
namespace Fd
open PySem PySem.Spec PyProof.Rows L2
/-- n signs from a on -/
def rn (f : Nat → Nat) (a n : Nat) : List Nat := (List.range n).map fun i => f (a + i)
theorem rn_len (f : Nat → Nat) (a n : Nat) : (rn f a n).length = n := by unfold rn; rw [List.length_map, List.length_range]
theorem rn_get {f : Nat → Nat} {a n i : Nat} (h : i < n) : (rn f a n)[i]? = some (f (a + i)) := by
  unfold rn
  rw [List.getElem?_map, List.getElem?_range h]
  rfl
theorem rn_add (f : Nat → Nat) (a m n : Nat) : rn f a (m + n) = rn f a m ++ rn f (a + m) n := by
  refine List.ext_getElem? fun i => ?_
  by_cases h : i < m
  · rw [List.getElem?_append_left (by rw [rn_len]; exact h), rn_get h, rn_get (by omega)]
  · rw [List.getElem?_append_right (by rw [rn_len]; omega), rn_len]
    by_cases k : i < m + n
    · rw [rn_get k, rn_get (by omega), show a + m + (i - m) = a + i by omega]
    · rw [List.getElem?_eq_none (by rw [rn_len]; omega), List.getElem?_eq_none (by rw [rn_len]; omega)]
theorem rn_congr {f g : Nat → Nat} {a n : Nat} (h : ∀ t, a ≤ t → t < a + n → f t = g t) : rn f a n = rn g a n := by
  unfold rn
  refine List.map_congr_left fun i hi => ?_
  have := List.mem_range.mp hi
  exact h _ (by omega) (by omega)
theorem rn_const {f : Nat → Nat} {a n c : Nat} (h : ∀ t, a ≤ t → t < a + n → f t = c) : rn f a n = List.replicate n c := by
  rw [rn_congr (g := fun _ => c) h]
  unfold rn
  rw [List.map_const', List.length_range]
theorem rn_drop (f : Nat → Nat) (a n k : Nat) (h : k ≤ n) : (rn f a n).drop k = rn f (a + k) (n - k) := by
  have : n = k + (n - k) := by omega
  conv => lhs; rw [this, rn_add]
  rw [List.drop_append_of_le_length (by rw [rn_len]; exact Nat.le_refl _), List.drop_eq_nil_of_le (by rw [rn_len]; exact Nat.le_refl _), List.nil_append]
theorem rn_take (f : Nat → Nat) (a n k : Nat) (h : k ≤ n) : (rn f a n).take k = rn f a k := by
  have : n = k + (n - k) := by omega
  conv => lhs; rw [this, rn_add]
  rw [List.take_append_of_le_length (by rw [rn_len]; exact Nat.le_refl _), List.take_of_length_le (by rw [rn_len]; exact Nat.le_refl _)]
/-- the slice of a text from a to b -/
theorem cutS_rn {f : Nat → Nat} {n a b : Nat} (h : a ≤ b) (hb : b ≤ n) : cutS (tx (rn f 0 n)) (some (a : Int)) (some (b : Int)) = tx (rn f a (b - a)) := by
  unfold cutS
  rw [tx_len, rn_len, tx_list]
  have e1 : HT.sIx n 0 (some (a : Int)) = a := by unfold HT.sIx; simp only [Option.getD_some]; split <;> omega
  have e2 : HT.sIx n n (some (b : Int)) = b := by unfold HT.sIx; simp only [Option.getD_some]; split <;> omega
  rw [e1, e2, rn_drop f 0 n a (by omega), rn_take _ _ _ _ (by omega), Nat.zero_add]
  rfl
theorem cutS_rnE {f : Nat → Nat} {n a : Nat} (h : a ≤ n) : cutS (tx (rn f 0 n)) (some (a : Int)) none = tx (rn f a (n - a)) := by
  unfold cutS
  rw [tx_len, rn_len, tx_list]
  have e1 : HT.sIx n 0 (some (a : Int)) = a := by unfold HT.sIx; simp only [Option.getD_some]; split <;> omega
  have e2 : HT.sIx n n none = n := by simp [HT.sIx]
  rw [e1, e2, rn_drop f 0 n a h, List.take_of_length_le (by rw [rn_len]; exact Nat.le_refl _), Nat.zero_add]
  rfl
theorem tx_nil : tx [] = Str.empty := rfl
theorem foldl_tx : ∀ (ls : List (List Nat)) (b : Array Nat), ((ls.map tx).foldl (fun acc p => acc ++ (Str.empty : Str).cps ++ p.cps) b).toList = b.toList ++ ls.flatten := by
  intro ls
  induction ls with
  | nil => intro b; simp
  | cons l ls ih =>
    intro b
    rw [List.map_cons, List.foldl_cons, ih]
    simp [tx, Str.empty]
theorem join_tx (ls : List (List Nat)) : Txt.join (tx []) (ls.map tx) = tx ls.flatten := by
  refine tx_eq ?_
  unfold Txt.join Builtin.Str.glued
  cases ls with
  | nil => rfl
  | cons l ls =>
    show ((ls.map tx).foldl (fun acc p => acc ++ (Str.empty : Str).cps ++ p.cps) (tx l).cps).toList = _
    rw [foldl_tx]
    rfl
theorem ljust_tx (l : List Nat) (i : Int) : Txt.ljust (tx l) i = tx (l ++ List.replicate (i.toNat - l.length) 32) := by
  refine tx_eq ?_
  have := ljustF_list (tx l) i 32
  rw [tx_len, tx_list] at this
  exact this
def rLs : List V → Hp → VK → Prop := fun xs H Q => ∃ z : Str, xs = [.str z] ∧ z.length ≤ sizeLine ∧ Q (.int z.length) H
def rStrI : List V → Hp → VK → Prop := fun xs H Q => ∃ i : Int, xs = [.int i] ∧ i.natAbs.log2 < 1920 ∧ Q (.str (toString i)) H
def rStr : R2 := fun x y H Q => ∃ i j, x = .str i ∧ y = .str j ∧ i.length + j.length ≤ sizeLine ∧ Q (.str (i ++ j)) H
theorem padOk {i : Int} (h0 : 0 ≤ i) (h : i ≤ 1000000) : PadOk i = true := by
  unfold PadOk fitsSsize Builtin.Str.tooLong
  have hs : 1000000 ≤ sizeLine := by decide
  have a : decide (i.toNat > sizeLine) = false := decide_eq_false (by omega)
  rw [a, decide_eq_false (by omega), decide_eq_false (by omega)]
  rfl
end Fd

set_option autoImplicit false
set_option Elab.async false
set_option linter.all false
set_option maxRecDepth 100000
set_option maxHeartbeats 4000000
/-! signs in texts, slices of texts as lists of signs, the lines of a text -/
namespace Fd
open PySem PySem.Spec PyProof.Rows L2 TL
section
variable {X : L2.Cx}
def rInS : R2 := fun x y H Q => ∃ (c : Nat) (l : List Nat), x = .str (tx [c]) ∧ y = .str (tx l) ∧ Q (.bl (decide (c ∈ l))) H
def rNinS : R2 := fun x y H Q => ∃ (c : Nat) (l : List Nat), x = .str (tx [c]) ∧ y = .str (tx l) ∧ Q (.bl (!decide (c ∈ l))) H
theorem op_inS : OpR X (compareOp .In) rInS := fun pins s σ H x y v u Q I rx ry h => by
  obtain ⟨c, l, e1, e2, q⟩ := h
  exact op_in_sign pins s σ H x y v u Q I rx ry ⟨c, tx l, e1, e2, q⟩
theorem op_ninS : OpR X (compareOp .NotIn) rNinS := fun pins s σ H x y v u Q I rx ry h => by
  obtain ⟨c, l, e1, e2, q⟩ := h
  exact op_notIn_sign pins s σ H x y v u Q I rx ry ⟨c, tx l, e1, e2, q⟩
def rIxS : R2 := fun x y H Q => ∃ (l : List Nat) (i c : Nat), x = .str (tx l) ∧ y = .int (i : Int) ∧ l[i]? = some c ∧ l.length ≤ 1000000 ∧ Q (.str (tx [c])) H
end
def rItS : R2 := fun x y H Q => ∃ z i c, x = .str z ∧ y = .int i ∧ 0 ≤ i ∧ i < 2 ^ 63 ∧ i < z.length ∧ z.cps[i.toNat]? = some c ∧ Q (.str ⟨#[c]⟩) H
theorem pe_itS {X : Cx} {a b : Expr} {ta tb : TE} {pos : Pos} (ha : PE X a ta) (hb : PE X b tb) (hs : PlainIxT b) : PE X (.Subscript a b pos) (tOp rItS ta tb) := pe_item_str ha hb hs
theorem ix_tx {l : List Nat} {i c : Nat} {H : Hp} {Q : VK} (h : l[i]? = some c) (hl : l.length ≤ 1000000) (q : Q (.str (tx [c])) H) :
    rItS (.str (tx l)) (.int (i : Int)) H Q := by
  have hi := (List.getElem?_eq_some_iff.mp h).1
  refine ⟨tx l, (i : Int), c, rfl, rfl, by omega, by omega, by rw [tx_len]; omega, ?_, q⟩
  rw [Int.toNat_natCast]
  show l.toArray[i]? = some c
  rw [List.getElem?_toArray]
  exact h
theorem cut_take (l : List Nat) (n : Nat) : cutS (tx l) none (some (n : Int)) = tx (l.take n) := by
  unfold cutS
  rw [HT.sIx_none, HT.sIx_nat, tx_list, tx_len, List.drop_zero, Nat.sub_zero]
  refine congrArg tx ?_
  by_cases h : n ≤ l.length
  · rw [Nat.min_eq_left h]
  · rw [Nat.min_eq_right (by omega), List.take_of_length_le (Nat.le_refl _), List.take_of_length_le (by omega)]
theorem cut_drop (l : List Nat) (n : Nat) : cutS (tx l) (some (n : Int)) none = tx (l.drop n) := by
  unfold cutS
  rw [HT.sIx_none, HT.sIx_nat, tx_list, tx_len]
  refine congrArg tx ?_
  by_cases h : n ≤ l.length
  · rw [Nat.min_eq_left h, List.take_of_length_le (by rw [List.length_drop]; omega)]
  · rw [Nat.min_eq_right (by omega), Nat.sub_self, List.take_zero, List.drop_eq_nil_of_le (by omega)]
/-- the last n signs -/
theorem cut_last (l : List Nat) (n : Nat) (h : 0 < n) : cutS (tx l) (some (-(n : Int))) none = tx (l.drop (l.length - n)) := by
  unfold cutS
  have e : HT.sIx (tx l).length 0 (some (-(n : Int))) = l.length - n := by
    unfold HT.sIx
    dsimp only
    rw [if_pos (by omega), tx_len]
    omega
  rw [e, HT.sIx_none, tx_list, tx_len]
  refine congrArg tx ?_
  rw [List.take_of_length_le (by rw [List.length_drop]; omega)]
theorem cut_but (l : List Nat) (n : Nat) (h : 0 < n) : cutS (tx l) none (some (-(n : Int))) = tx (l.take (l.length - n)) := by
  unfold cutS
  have e : HT.sIx (tx l).length (tx l).length (some (-(n : Int))) = l.length - n := by
    unfold HT.sIx
    dsimp only
    rw [if_pos (by omega), tx_len]
    omega
  rw [e, HT.sIx_none, tx_list, List.drop_zero, Nat.sub_zero]
  rfl
/-- lines, each ended -/
theorem spl_lines (ls : List (List Nat)) (h : ∀ l ∈ ls, 10 ∉ l) : spl [10] 0 [] (ls.flatMap fun l => l ++ [10]) = ls ++ [[]] := by
  induction ls with
  | nil => rfl
  | cons l ls ih =>
    rw [List.flatMap_cons, List.append_assoc]
    have := spl_part1 (s := 10) (S := []) (p := l) (rest := ls.flatMap fun l => l ++ [10]) (acc := []) (h l (by simp))
    rw [show [10] ++ (ls.flatMap fun l => l ++ [10]) = 10 :: [] ++ (ls.flatMap fun l => l ++ [10]) from rfl, this, ih fun x hx => h x (by simp [hx])]
    rfl
theorem split_lines (ls : List (List Nat)) (h : ∀ l ∈ ls, 10 ∉ l) : Txt.split (tx (ls.flatMap fun l => l ++ [10])) (tx [10]) = (ls ++ [[]]).map tx := by
  refine map_tl_inj ?_
  rw [split_spl _ _ (by decide) (kind_ok (by show (#[10] : Array Nat).all (· < 256) = true; decide +kernel))]
  show spl [10] 0 [] (ls.flatMap fun l => l ++ [10]) = _
  rw [spl_lines ls h, List.map_map]
  exact (List.map_id _).symm
theorem count_tx (l : List Nat) (c : Nat) : Txt.count (tx l) (tx [c]) = (l.count c : Int) := by
  refine (count_cnt (tx l) c).trans ?_
  show cnt c l = _
  induction l with
  | nil => rfl
  | cons x l ih =>
    rw [cnt_cons, ih, List.count_cons]
    by_cases h : x = c
    · rw [if_pos h, if_pos (beq_iff_eq.mpr h)]
      omega
    · rw [if_neg h, if_neg (fun w => h (beq_iff_eq.mp w))]
      omega
end Fd

set_option autoImplicit false
set_option Elab.async false
set_option linter.all false
set_option maxRecDepth 100000
set_option maxHeartbeats 4000000
/-! the words of a line, up to a word that begins with # -/
namespace Fd
open PySem PySem.Spec PyProof.Rows L2 TL
theorem st_go {σ σ' : L2.St} {i : Nat} {v : V} {H : Hp} {T : L2.St → Hp → Prop} (e : List.set σ i (some v) = σ') (h : T σ' H) : gName i v σ H T := by
  show T (List.set σ i (some v)) H
  rw [e]
  exact h
def wsL (l : List Nat) : List (List Nat) := wfin (l.foldl wstep ([], []))
def hashB (w : List Nat) : Bool := decide (w[0]? = some 35)
def lwL (l : List Nat) : List (List Nat) := (wsL l).takeWhile fun w => !hashB w
theorem words_tx (l : List Nat) : Txt.words (tx l) = (wsL l).map tx := by
  refine map_tl_inj ?_
  rw [words_tl, List.map_map]
  show wsL l = _
  exact (List.map_id _).symm
theorem starts_hash (w : List Nat) : Txt.startswith (tx w) (tx [35]) = hashB w := by
  have h := PySem.StrLaws.subAt_one (tx w) 35 0
  unfold hashB
  rw [Bool.eq_iff_iff, decide_eq_true_eq]
  show ((decide (0 + (tx [35]).length ≤ (tx w).length) && Builtin.Str.subAt (tx w) (tx [35]) 0) = true) ↔ _
  rw [Bool.and_eq_true, decide_eq_true_eq]
  exact h
theorem sgn_hash1 : Str.ofString "#" = tx [35] := by decide +kernel
theorem takeW_split {α : Type} {p : α → Bool} : ∀ (l : List α) (k : Nat), (∀ i x, i < k → l[i]? = some x → p x = true) → (∀ x, l[k]? = some x → p x = false) → l.takeWhile p = l.take k := by
  intro l
  induction l with
  | nil => intro k _ _; simp
  | cons a l ih =>
    intro k h1 h2
    cases k with
    | zero => rw [List.take_zero, List.takeWhile_cons, h2 a rfl]; rfl
    | succ k =>
      rw [List.takeWhile_cons, h1 0 a (by omega) rfl, if_pos rfl, List.take_succ_cons, ih k (fun i x hi e => h1 (i + 1) x (by omega) e) (fun x e => h2 x e)]
end Fd

set_option autoImplicit true
set_option Elab.async false
set_option linter.all false
set_option maxRecDepth 100000
set_option maxHeartbeats 2000000
namespace Fd
open PySem PySem.Spec PyProof.Rows L2 RZ
def topS (i : Nat) : Stmt := PySem.Challenge.pw_faultdue_k33_paper_texts.main.body.getD i (.Pass ⟨0, 0, 0, 0⟩)
end Fd

set_option autoImplicit true
set_option Elab.async false
set_option linter.all false
set_option maxRecDepth 100000
set_option maxHeartbeats 2000000
namespace Fd
open PySem PySem.Spec PyProof.Rows L2 RZ
def topL (i : Nat) : Stmt := PySem.Challenge.pw_faultdue_k33_paper_texts.main.body.getD i (.Pass ⟨0, 0, 0, 0⟩)
abbrev sCell : Stmt := topL 22
abbrev sDigits : Stmt := topL 23
abbrev sDraw : Stmt := topL 24
theorem scCell : FnScope ["script", "k"] ["script", "k"] (defScope sCell) := ⟨rfl, rfl, rfl, by decide +kernel, rfl, by decide +kernel, by decide +kernel⟩
theorem scDigits : FnScope ["script", "first", "last", "digits", "k", "cell", "turn", "seed"] ["script", "first", "last"] (defScope sDigits) := ⟨rfl, rfl, rfl, by decide +kernel, rfl, by decide +kernel, by decide +kernel⟩
theorem scDraw : FnScope ["box", "many", "at"] ["box", "many"] (defScope sDraw) := ⟨rfl, rfl, rfl, by decide +kernel, rfl, by decide +kernel, by decide +kernel⟩
section
variable {P : Program} {w : World} {K : PySem.W.Frag} {mg : Str → Option Value} {base : Heap}
/-! ### a cell of the script -/
def spCell (K : PySem.W.Frag) : Sp := fun vs H Q _ => ∃ (a : Addr) (ns : List Int) (k : Int), vs = [.ref a, .int k] ∧ 0 ≤ k ∧ SqL K H a (iv ns) ∧ ∀ v : Int, Q (.int v) H
theorem ok_cell {f : Addr} {fd : FuncData} (F : Fun K "_law_cell" "_law_cell" sCell f fd) (mLen : mg "len" = none) : FnOk P w K mg base CX0 1 f fd ["script", "k"] (spCell K) := by
  refine F.ok scCell (fun vs H Q E h => ?_) (fun cdv A outer s H vs Q E hr h => ?_)
  · obtain ⟨a, ns, k, rfl, _⟩ := h
    rfl
  · obtain ⟨a, ns, k, rfl, k0, hS, q⟩ := h
    refine ⟨_, pss_cons (ps_if (pt_cmpR op_lt (pv 1) (pe_callB call_len_seq (by rfl) mLen PySem.boot_len (pa_cons (pv 0) pa_nil)) (nomark _))
      (pss_one (ps_ret (pe_ix ix_list (pv 0) (pv 1) (fun _ _ => rfl)))) pss_nil) (pss_one (ps_ret pe_int)), ?_⟩
    refine ⟨_, rfl, .ref a, rfl, a, iv ns, rfl, .inl hS, _, _, rfl, rfl, _, rfl, ite2 (fun hlt => ?_) (fun _ => q 0)⟩
    have hk : k < ((iv ns).length : Int) := of_decide_eq_true hlt
    obtain ⟨m, rfl⟩ : ∃ m : Nat, k = m := ⟨k.toNat, by omega⟩
    have hm : m < ns.length := by rw [List.length_map] at hk; omega
    exact ⟨.ref a, rfl, _, rfl, a, _, m, .int ns[m], rfl, rfl, hS, atI_nat (by rw [List.getElem?_map, List.getElem?_eq_getElem hm]; rfl), q _⟩
/-! ### the digits -/
def spDigits (K : PySem.W.Frag) : Sp := fun vs H Q _ => ∃ (a : Addr) (ns : List Int) (m : Nat), vs = [.ref a, .int 0, .int m] ∧ m ≤ 1000 ∧ SqL K H a (iv ns) ∧
  ∀ H' l ds, Same H H' → H l = none → H' l = some (.lst (iv ds)) → Q (.ref l) H'
theorem ok_digits {f fC : Addr} {fd fdC : FuncData} (F : Fun K "_law_digits" "_law_digits" sDigits f fd) (FC : Fun K "_law_cell" "_law_cell" sCell fC fdC) (GC : FnOk P w K mg base CX0 1 fC fdC ["script", "k"] (spCell K))
    (bC : Binds K fdC ["script", "k"] []) (gC : mg "_law_cell" = some (.ref fC)) (mR : mg "range" = none) (mI : mg "int" = none) : FnOk P w K mg base CX0 2 f fd ["script", "first", "last"] (spDigits K) := by
  refine F.ok scDigits (fun vs H Q E h => ?_) (fun cdv A outer s H vs Q E hr h => ?_)
  · obtain ⟨a, ns, m, rfl, _⟩ := h
    rfl
  · obtain ⟨a, ns, M, rfl, hM, hS, q⟩ := h
    refine ⟨_, pss_cons (ps_set (i := 3) scDigits.nd rfl (.inl rfl) (pe_lst pa_nil))
      (pss_cons (ps_for PassesOwn.never rfl (pi_range2 (by rfl) mR (pa_cons (pv 1) (pa_cons (pv 2) pa_nil))) (pg_name (i := 4) scDigits.nd rfl (.inl rfl))
        (pss_cons (ps_set (i := 5) scDigits.nd rfl (.inl rfl) (pe_call GC hr (by rfl) gC FC.kp bC .nil pass0 (pa_cons (pv 0) (pa_cons (pv 4) pa_nil))))
        (pss_cons (ps_if (pt_cmpR op_lt (pv 5) pe_int (nomark _)) (pss_one (ps_set (i := 5) scDigits.nd rfl (.inl rfl) (pe_op op_sub pe_int (pe_op op_mul pe_int (pv 5))))) pss_nil)
        (pss_one (ps_if (pt_cmpR op_ge (pv 5) (pe_op op_pow pe_int pe_int) (nomark _))
          (pss_one (ps_for PassesOwn.never rfl (pi_range1 (by rfl) mR (pa_cons pe_int pa_nil)) (pg_name (i := 6) scDigits.nd rfl (.inl rfl))
            (pss_one (ps_if (pt_cmpR op_gt (pv 5) pe_int (nomark _))
              (pss_cons (ps_expr (pe_bm PySem.F.plainAttrs_list PySem.F.slot_list_append PySem.F.type_list_append mt_append (pv 3) (pa_cons (pe_op op_mod (pe_callTy call_int1 (by rfl) mI (by decide +kernel) (pa_cons (pv 5) pa_nil)) pe_int) pa_nil)))
                (pss_one (ps_set (i := 5) scDigits.nd rfl (.inl rfl) (pe_op op_fdiv (pv 5) pe_int))))
              pss_nil))))
          (pss_cons (ps_set (i := 7) scDigits.nd rfl (.inl rfl) (pe_op op_mod (pe_callTy call_int1 (by rfl) mI (by decide +kernel) (pa_cons (pe_op op_add (pe_op op_add (pe_op op_mul (pv 5) pe_int) (pe_op op_mul (pv 4) pe_int)) pe_int) pa_nil)) pe_int))
            (pss_one (ps_for PassesOwn.never rfl (pi_range1 (by rfl) mR (pa_cons pe_int pa_nil)) (pg_name (i := 6) scDigits.nd rfl (.inl rfl))
              (pss_cons (ps_set (i := 7) scDigits.nd rfl (.inl rfl) (pe_op op_mod (pe_callTy call_int1 (by rfl) mI (by decide +kernel) (pa_cons (pe_op op_add (pe_op op_add (pe_op op_mul (pv 7) pe_int) (pe_op op_mul pe_int (pv 6))) pe_int) pa_nil)) pe_int))
                (pss_one (ps_expr (pe_bm PySem.F.plainAttrs_list PySem.F.slot_list_append PySem.F.type_list_append mt_append (pv 3) (pa_cons (pe_op op_mod (pe_callTy call_int1 (by rfl) mI (by decide +kernel) (pa_cons (pe_op op_fdiv (pv 7) pe_int) pa_nil)) pe_int) pa_nil)))))))))))))
      (pss_one (ps_ret (pv 3)))), ?_⟩
    refine ⟨Nat.zero_le _, fun l nl => ?_⟩
    have s1 := same_new (o := .lst []) nl
    have szL : ∀ n : Nat, n ≤ 60 * 1000 → n < sizeLine := fun n h => Nat.lt_of_le_of_lt h (by decide)
    refine ⟨_, rfl, _, rfl, 0, M, rfl, ⟨by omega, by omega, by omega, by omega⟩, ?_⟩
    rw [show ((M : Int) - 0).toNat = M by omega]
    refine for_range (fun i σ H' => ∃ y4 y5 y6 y7 ds, σ = [some (.ref a), some (.int 0), some (.int M), some (.ref l), y4, y5, y6, y7] ∧ Same H H' ∧ H' l = some (.lst (iv ds)) ∧ ds.length ≤ 60 * i)
      ⟨none, none, none, none, [], rfl, s1, upd_same, Nat.zero_le _⟩ ?_ ?_
    · rintro i σ H' hi ⟨y4, y5, y6, y7, ds, rfl, sm, hl, hd⟩
      refine ⟨_, rfl, _, rfl, a, ns, 0 + (i : Int), rfl, by omega, sm.seq hS, fun c => ?_⟩
      refine ⟨_, rfl, _, _, rfl, rfl, _, rfl, ite2 (fun _ => ⟨_, rfl, 2, c, rfl, rfl, .inl ⟨by decide, by decide⟩, 1, _, rfl, rfl, ?_⟩) (fun _ => ?_)⟩
      · obtain ⟨c2, hc2⟩ : ∃ c2, c2 = 1 - 2 * c := ⟨_, rfl⟩
        dsimp only
        rw [← hc2]
        clear hc2
        refine ⟨_, rfl, 10, 18, rfl, rfl, ⟨by decide, by decide, by decide⟩, _, _, rfl, rfl, _, rfl, ite2 (fun _ => ?_) (fun _ => ?_)⟩
        · refine ⟨60, rfl, by decide, by decide, for_range (n := 60) (fun t σ H' => ∃ (c : Int) (y6 y7 : Option V) (ds : List Int), σ = [some (.ref a), some (.int 0), some (.int M), some (.ref l), some (.int (0 + (i : Int))), some (.int c), y6, y7] ∧ Same H H' ∧ H' l = some (.lst (iv ds)) ∧ ds.length ≤ 60 * i + t)
            ⟨c2, _, _, ds, rfl, sm, hl, hd⟩ ?_ ?_⟩
          · rintro t σ H' ht ⟨c, y6, y7, ds, rfl, sm, hl, hd⟩
            refine ⟨_, rfl, _, _, rfl, rfl, _, rfl, ite2 (fun _ => ?_) (fun _ => ⟨c, _, _, ds, rfl, sm, hl, by omega⟩)⟩
            refine ⟨.ref l, rfl, .inl ⟨rfl, _, SqL.of hl⟩, _, rfl, .inl ⟨_, rfl, _, _, rfl, rfl, (by show (0 : Int) < 1000; decide), l, _, _, rfl, rfl, hl, ?_, ?_⟩⟩
            · rw [List.length_map]; exact szL _ (by omega)
            · refine ⟨_, rfl, _, _, rfl, rfl, ⟨by decide, by decide⟩, _, _, _, ds ++ [c % 1000], rfl, same_upd' sm nl, ?_, ?_⟩
              · rw [upd_same, iv_snoc]
              · rw [List.length_append, List.length_singleton]; omega
          · rintro σ H' ⟨c, y6, y7, ds, rfl, sm, hl, hd⟩
            exact ⟨_, _, _, _, ds, rfl, sm, hl, by omega⟩
        · refine ⟨_, rfl, _, _, rfl, rfl, .inr ⟨by decide, by decide⟩, _, rfl, _, _, rfl, rfl, .inr ⟨by decide, by decide⟩, _, _, rfl, rfl, _, _, rfl, rfl, .inl ⟨_, rfl, _, _, rfl, rfl, (by show (0 : Int) < 2147483647; decide), ?_⟩⟩
          refine ⟨12, rfl, by decide, by decide, for_range (n := 12) (fun t σ H' => ∃ (z : Int) (y6 : Option V) (ds : List Int), σ = [some (.ref a), some (.int 0), some (.int M), some (.ref l), some (.int (0 + (i : Int))), some (.int c2), y6, some (.int z)] ∧ Same H H' ∧ H' l = some (.lst (iv ds)) ∧ ds.length ≤ 60 * i + t)
            ⟨_, _, ds, rfl, sm, hl, hd⟩ ?_ ?_⟩
          · rintro t σ H' ht ⟨z, y6, ds, rfl, sm, hl, hd⟩
            refine ⟨_, rfl, _, _, rfl, rfl, .inr ⟨by decide, by decide⟩, _, rfl, _, _, rfl, rfl, .inl ⟨by decide, by decide⟩, _, _, rfl, rfl, _, _, rfl, rfl, .inl ⟨_, rfl, _, _, rfl, rfl, (by show (0 : Int) < 2147483647; decide), ?_⟩⟩
            refine ⟨.ref l, rfl, .inl ⟨rfl, _, SqL.of hl⟩, _, rfl, _, _, rfl, rfl, ⟨by decide, by decide⟩, .inl ⟨_, rfl, _, _, rfl, rfl, (by show (0 : Int) < 1000; decide), l, _, _, rfl, rfl, hl, ?_, ?_⟩⟩
            · rw [List.length_map]; exact szL _ (by omega)
            · refine ⟨_, _, ds ++ [(z * 16807 + 7 * (0 + (t : Int)) + 1) % 2147483647 / 997 % 1000], rfl, same_upd' sm nl, ?_, ?_⟩
              · rw [upd_same, iv_snoc]
              · rw [List.length_append, List.length_singleton]; omega
          · rintro σ H' ⟨z, y6, ds, rfl, sm, hl, hd⟩
            exact ⟨_, _, _, _, ds, rfl, sm, hl, by omega⟩
      · obtain ⟨c2, hc2⟩ : ∃ c2, c2 = c := ⟨_, rfl⟩
        rw [← hc2]
        clear hc2
        refine ⟨_, rfl, 10, 18, rfl, rfl, ⟨by decide, by decide, by decide⟩, _, _, rfl, rfl, _, rfl, ite2 (fun _ => ?_) (fun _ => ?_)⟩
        · refine ⟨60, rfl, by decide, by decide, for_range (n := 60) (fun t σ H' => ∃ (c : Int) (y6 y7 : Option V) (ds : List Int), σ = [some (.ref a), some (.int 0), some (.int M), some (.ref l), some (.int (0 + (i : Int))), some (.int c), y6, y7] ∧ Same H H' ∧ H' l = some (.lst (iv ds)) ∧ ds.length ≤ 60 * i + t)
            ⟨c2, _, _, ds, rfl, sm, hl, hd⟩ ?_ ?_⟩
          · rintro t σ H' ht ⟨c, y6, y7, ds, rfl, sm, hl, hd⟩
            refine ⟨_, rfl, _, _, rfl, rfl, _, rfl, ite2 (fun _ => ?_) (fun _ => ⟨c, _, _, ds, rfl, sm, hl, by omega⟩)⟩
            refine ⟨.ref l, rfl, .inl ⟨rfl, _, SqL.of hl⟩, _, rfl, .inl ⟨_, rfl, _, _, rfl, rfl, (by show (0 : Int) < 1000; decide), l, _, _, rfl, rfl, hl, ?_, ?_⟩⟩
            · rw [List.length_map]; exact szL _ (by omega)
            · refine ⟨_, rfl, _, _, rfl, rfl, ⟨by decide, by decide⟩, _, _, _, ds ++ [c % 1000], rfl, same_upd' sm nl, ?_, ?_⟩
              · rw [upd_same, iv_snoc]
              · rw [List.length_append, List.length_singleton]; omega
          · rintro σ H' ⟨c, y6, y7, ds, rfl, sm, hl, hd⟩
            exact ⟨_, _, _, _, ds, rfl, sm, hl, by omega⟩
        · refine ⟨_, rfl, _, _, rfl, rfl, .inr ⟨by decide, by decide⟩, _, rfl, _, _, rfl, rfl, .inr ⟨by decide, by decide⟩, _, _, rfl, rfl, _, _, rfl, rfl, .inl ⟨_, rfl, _, _, rfl, rfl, (by show (0 : Int) < 2147483647; decide), ?_⟩⟩
          refine ⟨12, rfl, by decide, by decide, for_range (n := 12) (fun t σ H' => ∃ (z : Int) (y6 : Option V) (ds : List Int), σ = [some (.ref a), some (.int 0), some (.int M), some (.ref l), some (.int (0 + (i : Int))), some (.int c2), y6, some (.int z)] ∧ Same H H' ∧ H' l = some (.lst (iv ds)) ∧ ds.length ≤ 60 * i + t)
            ⟨_, _, ds, rfl, sm, hl, hd⟩ ?_ ?_⟩
          · rintro t σ H' ht ⟨z, y6, ds, rfl, sm, hl, hd⟩
            refine ⟨_, rfl, _, _, rfl, rfl, .inr ⟨by decide, by decide⟩, _, rfl, _, _, rfl, rfl, .inl ⟨by decide, by decide⟩, _, _, rfl, rfl, _, _, rfl, rfl, .inl ⟨_, rfl, _, _, rfl, rfl, (by show (0 : Int) < 2147483647; decide), ?_⟩⟩
            refine ⟨.ref l, rfl, .inl ⟨rfl, _, SqL.of hl⟩, _, rfl, _, _, rfl, rfl, ⟨by decide, by decide⟩, .inl ⟨_, rfl, _, _, rfl, rfl, (by show (0 : Int) < 1000; decide), l, _, _, rfl, rfl, hl, ?_, ?_⟩⟩
            · rw [List.length_map]; exact szL _ (by omega)
            · refine ⟨_, _, ds ++ [(z * 16807 + 7 * (0 + (t : Int)) + 1) % 2147483647 / 997 % 1000], rfl, same_upd' sm nl, ?_, ?_⟩
              · rw [upd_same, iv_snoc]
              · rw [List.length_append, List.length_singleton]; omega
          · rintro σ H' ⟨z, y6, ds, rfl, sm, hl, hd⟩
            exact ⟨_, _, _, _, ds, rfl, sm, hl, by omega⟩
    · rintro σ H' ⟨y4, y5, y6, y7, ds, rfl, sm, hl, hd⟩
      exact ⟨_, rfl, q H' l ds sm nl hl⟩
/-! ### a draw -/
/-- box = [digits, place] -/
def BoxAt (H : Hp) (b D : Addr) (ds : List Int) (at_ : Nat) : Prop := H b = some (.lst [.ref D, .int at_]) ∧ H D = some (.lst (iv ds))
theorem BoxAt.ne {H : Hp} {b D : Addr} {ds : List Int} {n : Nat} (h : BoxAt H b D ds n) : D ≠ b := by
  refine ne_of h.2 h.1 fun e => ?_
  injection e with e
  cases ds with
  | nil => cases e
  | cons x r => cases e
theorem BoxAt.bump {H : Hp} {b D : Addr} {ds : List Int} {n : Nat} (h : BoxAt H b D ds n) : BoxAt (upd H b (.lst [.ref D, .int (n + 1 : Nat)])) b D ds (n + 1) :=
  ⟨upd_same, by rw [upd_ne h.ne]; exact h.2⟩
theorem BoxAt.same {H H' : Hp} {b D : Addr} {ds : List Int} {n : Nat} (h : BoxAt H b D ds n) (s : Same H H') : BoxAt H' b D ds n := ⟨s _ _ h.1, s _ _ h.2⟩
def spDraw : Sp := fun vs H Q _ => ∃ (b D : Addr) (ds : List Int) (n : Nat) (m : Int), vs = [.ref b, .int m] ∧ BoxAt H b D ds n ∧ 0 < m ∧
  ∀ d : Int, 0 ≤ d → d < m → Q (.int d) (upd H b (.lst [.ref D, .int (n + 1 : Nat)]))
theorem ok_draw {f : Addr} {fd : FuncData} (F : Fun K "_law_draw" "_law_draw" sDraw f fd) (mLen : mg "len" = none) (mI : mg "int" = none) : FnOk P w K mg base CX0 1 f fd ["box", "many"] spDraw := by
  refine F.ok scDraw (fun vs H Q E h => ?_) (fun cdv A outer s H vs Q E hr h => ?_)
  · obtain ⟨b, D, ds, n, m, rfl, _⟩ := h
    rfl
  · obtain ⟨b, D, ds, n, m, rfl, hB, m0, q⟩ := h
    refine ⟨_, pss_cons (ps_set (i := 2) scDraw.nd rfl (.inl rfl) (pe_ix ix_list (pv 0) pe_int (fun _ _ => rfl)))
      (pss_cons (ps_asg (pe_op op_add (pv 2) pe_int) (pg_sub (pv 0) pe_int set_list))
      (pss_cons (ps_if (pt_cmpR op_lt (pv 2) (pe_callB call_len_seq (by rfl) mLen PySem.boot_len (pa_cons (pe_ix ix_list (pv 0) pe_int (fun _ _ => rfl)) pa_nil)) (nomark _))
        (pss_one (ps_ret (pe_op op_mod (pe_callTy call_int1 (by rfl) mI (by decide +kernel) (pa_cons (pe_ix ix_list (pe_ix ix_list (pv 0) pe_int (fun _ _ => rfl)) (pv 2) (fun _ _ => rfl)) pa_nil)) (pv 1)))) pss_nil)
      (pss_one (ps_ret pe_int)))), ?_⟩
    refine ⟨.ref b, rfl, b, _, 1, .int n, rfl, rfl, SqL.of hB.1, rfl, ?_⟩
    refine ⟨_, rfl, _, _, rfl, rfl, .ref b, rfl, b, _, 1, 1, rfl, rfl, hB.1, rfl, ?_⟩
    have e1 : ((n : Int) + 1) = ((n + 1 : Nat) : Int) := by omega
    have hU : upd H b (.lst ([V.ref D, V.int n].set 1 (V.int ((n : Int) + 1)))) = upd H b (.lst [.ref D, .int (n + 1 : Nat)]) := by rw [e1]; rfl
    have hB2 := hB.bump
    show (tSeq _ _) _ _ (upd H b (.lst ([V.ref D, V.int n].set 1 (V.int ((n : Int) + 1)))))
    rw [hU]
    refine ⟨_, rfl, .ref b, rfl, b, _, 0, .ref D, rfl, rfl, SqL.of hB2.1, rfl, D, _, rfl, .inl (SqL.of hB2.2), _, _, rfl, rfl, _, rfl, ite2 (fun hlt => ?_) (fun _ => q 0 (Int.le_refl 0) m0)⟩
    have hn : (n : Int) < ((iv ds).length : Int) := of_decide_eq_true hlt
    have hn' : n < ds.length := by rw [List.length_map] at hn; omega
    refine ⟨.ref b, rfl, b, _, 0, .ref D, rfl, rfl, SqL.of hB2.1, rfl, _, rfl, D, _, n, .int ds[n], rfl, rfl, SqL.of hB2.2, atI_nat (by rw [List.getElem?_map, List.getElem?_eq_getElem hn']; rfl), .inl ⟨_, rfl, .int m, rfl, _, _, rfl, rfl, m0, ?_⟩⟩
    exact q _ (Int.emod_nonneg _ (by omega)) (Int.emod_lt_of_pos _ m0)
/-! ### the same, by repr -/
def spSame (K : PySem.W.Frag) : Sp := fun vs H Q _ => ∃ (x y : V) (d : PyData), vs = [x, y] ∧ Dp K H x d ∧ Dp K H y d ∧ smallD d ∧ Q (.bl true) H
end
end Fd

set_option autoImplicit false
set_option Elab.async false
set_option linter.all false
set_option maxRecDepth 100000
set_option maxHeartbeats 4000000
namespace Fd
open PySem PySem.Spec PyProof.Rows L2 RZ
abbrev sWd : Stmt := topS 15
theorem scWd : FnScope ["row", "words", "word"] ["row"] (defScope sWd) := ⟨rfl, rfl, rfl, by decide +kernel, rfl, by decide +kernel, by decide +kernel⟩
abbrev sWdN : List Str := ["row", "words", "word"]
section
variable {P : Program} {w : World} {K : PySem.W.Frag} {mg : Str → Option Value} {base : Heap}
def spWd : Sp := fun vs H Q _ => ∃ l : List Nat, vs = [.str (tx l)] ∧ l.length ≤ 1000000 ∧ ∀ H' r, Same H H' → H r = none → H' r = some (.lst ((lwL l).map fun w => V.str (tx w))) → Q (.ref r) H'
theorem ok_wd {f : Addr} {fd : FuncData} (F : Fun K "words_of" "words_of" sWd f fd)
     : FnOk P w K mg base CX0 1 f fd ["row"] spWd := by
  refine F.ok scWd (fun vs H Q E h => ?_) (fun cdv A outer s H vs Q E hr h => ?_)
  · obtain ⟨l, rfl, _⟩ := h
    rfl
  · obtain ⟨l, rfl, hl, q⟩ := h
    refine ⟨_, pss_cons (ps_set (i := 1) scWd.nd rfl (.inl rfl) (pe_lst pa_nil))
      (pss_cons (ps_for PassesOwn.never rfl (pi_list (pe_words (pv 0))) (pg_name (i := 2) scWd.nd rfl (.inl rfl))
        (pss_cons (ps_if (pt_val (pe_bm PySem.F.plainAttrs_str PySem.F.slot_str_startswith PySem.F.type_str_startswith mt_startswith (pv 2) (pa_cons (pe_str) pa_nil)))
          (pss_one (ps_break)) pss_nil)
        (pss_one (ps_expr (pe_bm PySem.F.plainAttrs_list PySem.F.slot_list_append PySem.F.type_list_append mt_append (pv 1) (pa_cons (pv 2) pa_nil))))))
      (pss_one (ps_ret (pv 1)))), ?_⟩
    have big : 2000000 ≤ sizeLine := by decide
    refine ⟨by show 0 ≤ sizeLine; decide, fun D nD => ?_⟩
    have sD := same_new (o := .lst []) nD
    refine st_go (σ' := [some (.str (tx l)), some (.ref D), none]) rfl ?_
    refine ⟨.str (tx l), rfl, ⟨_, rfl⟩, tx l, rfl, rfl, by rw [tx_len]; omega, fun W nW => ?_⟩
    rw [words_tx]
    have sW := same_new (o := .lst (((wsL l).map tx).map V.str)) nW
    have lw : (wsL l).length ≤ l.length + 1 := by
      have := words_le (tx l)
      rw [words_tx, List.length_map, tx_len] at this
      exact this
    refine ⟨W, rfl, ⟨_, SqL.of upd_same⟩, ?_⟩
    obtain ⟨HW, hHW⟩ : ∃ HW, HW = L2.upd (L2.upd H D (.lst [])) W (.lst (((wsL l).map tx).map V.str)) := ⟨_, rfl⟩
    have hW : HW W = some (.lst (((wsL l).map tx).map V.str)) := by rw [hHW]; exact upd_same
    have hD : HW D = some (.lst []) := by rw [hHW, upd_ne (ne_of_none upd_same nW)]; exact upd_same
    have s0 : Same H HW := by rw [hHW]; exact sD.trans sW
    have nWD : W ≠ D := fun z => by rw [z, upd_same] at nW; cases nW
    rw [← hHW]
    refine for_it walk_list (fun k σ H' => ∃ y2, σ = [some (.str (tx l)), some (.ref D), y2] ∧ Same H H' ∧ H' W = some (.lst (((wsL l).map tx).map V.str)) ∧ H' D = some (.lst (((wsL l).take k).map fun w => V.str (tx w))) ∧ ∀ (i : Nat) (x : List Nat), i < k → (wsL l)[i]? = some x → hashB x = false)
      ⟨none, rfl, s0, hW, hD, fun i x h => absurd h (Nat.not_lt_zero i)⟩ (fun k σ H' _ h => by obtain ⟨_, _, _, h, _⟩ := h; exact SqL.of h) ?_ ?_
    · rintro k x σ H2 H3 hk ⟨y2, rfl, s2, hW2, hD2, no⟩ ⟨rfl, hx⟩
      rw [List.length_map, List.length_map] at hk
      rw [List.getElem?_map, List.getElem?_map, List.getElem?_eq_getElem hk] at hx
      cases hx
      refine st_go (σ' := [some (.str (tx l)), some (.ref D), some (.str (tx (wsL l)[k]))]) rfl ?_
      refine ⟨.str (tx (wsL l)[k]), rfl, rfl, _, _, rfl, rfl, ?_⟩
      have hk2 : (wsL l)[k]? = some (wsL l)[k] := List.getElem?_eq_getElem hk
      rw [sgn_hash1, starts_hash]
      refine ⟨_, rfl, ite2 (fun h1 => ?_) (fun h1 => ?_)⟩
      · have e : lwL l = (wsL l).take k := takeW_split _ k (fun i x hi e => by rw [no i x hi e]; rfl) (fun x e => by rw [hk2] at e; cases e; rw [h1]; rfl)
        refine ⟨.ref D, rfl, q _ D s2 nD ?_⟩
        rw [e]
        exact hD2
      · refine ⟨.ref D, rfl, .inl ⟨rfl, _, SqL.of hD2⟩, .str (tx (wsL l)[k]), rfl, D, _, _, rfl, rfl, hD2, Nat.lt_of_le_of_lt (show _ ≤ 1000001 by rw [List.length_map, List.length_take]; omega) (by decide), ?_⟩
        refine ⟨_, rfl, same_upd' s2 nD, by rw [upd_ne nWD]; exact hW2, ?_, fun i x hi e => ?_⟩
        · rw [upd_same, List.take_add_one, hk2, List.map_append]
          rfl
        · by_cases c : i = k
          · subst c
            rw [hk2] at e
            cases e
            exact Bool.eq_false_iff.mpr h1
          · exact no i x (by omega) e
    · rintro σ H2 ⟨y2, rfl, s2, hW2, hD2, no⟩
      rw [List.length_map, List.length_map] at hD2 no
      have e : lwL l = (wsL l).take (wsL l).length := takeW_split _ _ (fun i x hi e => by rw [no i x hi e]; rfl) (fun x e => by rw [List.getElem?_eq_none (Nat.le_refl _)] at e; cases e)
      refine ⟨.ref D, rfl, q _ D s2 nD ?_⟩
      rw [e]
      exact hD2
end
end Fd

set_option autoImplicit false
set_option Elab.async false
set_option linter.all false
set_option maxRecDepth 100000
set_option maxHeartbeats 4000000
/-! tables of code objects that may grow, all else stands -/
namespace Fd
open PySem PySem.Spec PyProof.Rows L2
structure Tbs (PT : List Addr) (H H' : Hp) : Prop where
  tab : ∀ p ∈ PT, GxR.TabG H p → GxR.TabG H' p
  kp : ∀ b o, b ∉ PT → H b = some o → H' b = some o
def TbG (PT : List Addr) (H : Hp) : Prop := ∀ p ∈ PT, GxR.TabG H p
theorem Tbs.refl (PT : List Addr) (H : Hp) : Tbs PT H H := ⟨fun _ _ h => h, fun _ _ _ e => e⟩
theorem Tbs.trans {PT : List Addr} {H H1 H2 : Hp} (a : Tbs PT H H1) (b : Tbs PT H1 H2) : Tbs PT H H2 := ⟨fun p h t => b.tab p h (a.tab p h t), fun c o n e => b.kp c o n (a.kp c o n e)⟩
theorem tabG_same {H H' : Hp} {p : Addr} (s : Same H H') (t : GxR.TabG H p) : GxR.TabG H' p := by
  obtain ⟨ps, a, b⟩ := t
  exact ⟨ps, s _ _ a, b⟩
theorem Tbs.same {PT : List Addr} {H H' : Hp} (s : Same H H') : Tbs PT H H' := ⟨fun _ _ t => tabG_same s t, fun c o _ e => s c o e⟩
theorem Tbs.of {PT : List Addr} {p : Addr} {H H' : Hp} (hp : p ∈ PT) (h : GxR.Tabbed p H H') : Tbs PT H H' := ⟨fun q hq t => by
  by_cases e : q = p
  · rw [e]; exact h.1
  · obtain ⟨ps, a, b⟩ := t
    exact ⟨ps, by rw [h.2 q e]; exact a, b⟩, fun c o n e => by rw [h.2 c (fun z => n (by rw [z]; exact hp))]; exact e⟩
theorem Tbs.g {PT : List Addr} {H H' : Hp} (h : Tbs PT H H') (g : TbG PT H) : TbG PT H' := fun p hp => h.tab p hp (g p hp)
theorem TbG.ne {PT : List Addr} {H : Hp} (g : TbG PT H) {b : Addr} {o : HO} (e : H b = some o) (no : ∀ ps, o ≠ .tbl ps) : b ∉ PT := fun hb => by
  obtain ⟨ps, a, _⟩ := g b hb
  rw [e] at a
  cases a
  exact no ps rfl
theorem Tbs.lst {PT : List Addr} {H H' : Hp} (h : Tbs PT H H') (g : TbG PT H) {b : Addr} {xs : List V} (e : H b = some (.lst xs)) : H' b = some (.lst xs) := h.kp b _ (g.ne e fun ps z => nomatch z) e
theorem Tbs.tup {PT : List Addr} {H H' : Hp} (h : Tbs PT H H') (g : TbG PT H) {b : Addr} {xs : List V} (e : H b = some (.tup xs)) : H' b = some (.tup xs) := h.kp b _ (g.ne e fun ps z => nomatch z) e
theorem Tbs.ts {PT : List Addr} {H H' : Hp} (h : Tbs PT H H') (g : TbG PT H) : Ts H H' := ⟨fun b u e => h.kp b _ (g.ne e fun ps z => by cases u <;> exact nomatch z) e⟩
theorem Tbs.updN {PT : List Addr} {H H' : Hp} {b : Addr} {o : HO} (t : Tbs PT H H') (g : TbG PT H) (n : H b = none) : Tbs PT H (upd H' b o) := by
  have nb : b ∉ PT := fun h => by
    obtain ⟨ps, e, _⟩ := g b h
    rw [n] at e
    cases e
  refine ⟨fun p hp tp => ?_, fun c u hc e => ?_⟩
  · obtain ⟨ps, e, f⟩ := t.tab p hp tp
    exact ⟨ps, by rw [upd_ne (fun z => nb (by rw [← z]; exact hp))]; exact e, f⟩
  · rw [upd_ne (fun z => by rw [z, n] at e; cases e)]
    exact t.kp c u hc e
end Fd

set_option autoImplicit false
set_option Elab.async false
set_option linter.all false
set_option maxRecDepth 100000
set_option maxHeartbeats 4000000
/-! all(f(x) for x in a text): the element may call a def of the program -/
namespace Fd
open PySem PySem.Spec PyProof.Rows L2 GxR
/-- the element: a test of the sign c; what surrounds it is bounded, what the base holds stands -/
def EltD (prog : Program) (w : World) (base : Heap) (D U : Nat) (scope : Scope) (x : Str) (elt : Expr) (pb : Nat → Bool) : Prop :=
  ∀ (cenv : Env) (A' : Around) (E' : Value → Shared → Prop) (c : Nat) (t : Tok) (s₂ : Shared) (m₂ : Str → Option Value), A'.handled = none → A'.depth ≤ D → A'.units ≤ U → cenv.scope = scope → cenv.globals = mainGlobals → s₂.heap.Ns cenv.locals m₂ → m₂ x = some (.str ⟨#[c]⟩ t) →
    (∀ b o, base.get? b = some o → s₂.heap.get? b = some o) → wpAny (model prog w) A' (eval elt cenv) (fun y s₃ => y = .bool (pb c) ∧ Keeps s₂ s₃) E' s₂
section
variable {X : L2.Cx} {pins : List (Addr × Obj)} {σ : L2.St} {H : Hp} {s : Shared}
theorem gen_strD {c P : Addr} {elt iter : Expr} {x : Str} {px gpos : Pos} {scope : Scope} {pb : Nat → Bool} {te : TE} {k : Nat} {Q' : Value → Shared → Prop} {R : Str → Hp → Prop}
    (hr : Room k X.A) (TB : TabB X.base X.mg c P) (hcode : X.env.code = .ref c) (S : GenS X.env scope x) (hi : PE X iter te) (hel : L2.Mod X.K X.mg X.base → EltD X.prog X.w X.base (X.A.depth + 1) (X.A.units + 8) scope x elt pb)
    (hs : ∀ v, genFold iter X.env v = pure v) (I : Inv X pins σ H s) (h : te σ H fun v H1 => ∃ a : Str, v = .str a ∧ TabG H1 P ∧ R a H1)
    (hQ : ∀ a H1 g s5, R a H1 → Ready X pins σ H1 P a pb g s5 → Q' (.ref g) s5) :
    wpAny (model X.prog X.w) X.A (eval (.GeneratorExp elt [⟨.Name x px, iter, [], 0⟩] scope gpos) X.env) Q' X.xe s := by
  refine wpAny_GeneratorExp_walksQD hr.hd S.co (closure_ok S.free) S.cell S.dot S.loc S.kind (by have := hr.dp; omega) ?_ hs
  refine thn (hi.run pins s σ H _ I h) fun xv s1 ⟨v, H1, I1, r1, q1⟩ => ?_
  obtain ⟨a, rfl, ⟨ps, hP, ht⟩, q1⟩ := q1
  obtain ⟨t, rfl⟩ := _root_.id r1
  refine wpAny_pyIter_str fun o St W hst => ?_
  have hPs : s1.heap.get? P = some { cls := .none, data := .fields ps } := I1.hok P _ hP
  have hPlt : P < s1.heap.objs.size := Heap.lt_size hPs
  have hP2 : (s1.heap.push o).get? P = some { cls := .none, data := .fields ps } := Heap.get?_push_of_some _ hPs
  have nb : ∀ b u, X.base.get? b = some u → b ≠ P := fun b u e z => by
    have := (I1.bs b u e).2
    rw [z, hP] at this
    cases this
  have cd : PySem.W.CodeHd (s1.heap.push o) c P := TB.code.keeps fun b u e => Heap.get?_push_of_some _ (I1.bk b u e)
  have lim2 : (s1.heap.push o).NoLimit := I1.nolimit.push o
  have cont : ∀ (code : Value) (h3 : Heap) (tk : Nat) (ps' : Array Value), Heap.ExtBut P (s1.heap.push o) h3 → (s1.heap.push o).objs.size ≤ h3.objs.size → h3.get? P = some { cls := .none, data := .fields ps' } → (∃ more, ps' = ps ++ more) → TriplesOk ps'.toList →
      wpAny (model X.prog X.w) X.A (builtinsFor X.env.globals X.env.builtins) (fun bi s₄ =>
        ∃ Ia fp wr n₀ Pf St₀ pz F, Value.ref s1.heap.objs.size = .ref Ia ∧ (∀ A' : Around, A'.handled = none → Walks X.prog X.w A' Ia fp wr n₀ Pf St₀) ∧ St₀ 0 s₄.heap ∧ (∀ b ∈ fp, b < s₄.heap.objs.size) ∧ s₄.heap.NoLimit ∧ cStatics ∉ wr ∧
          (∀ href : Heap, (∀ b o, s₄.heap.get? b = some o → href.get? b = some o) →
            QuietGenD X.prog X.w (genEnv scope (cloFrom X.env.cells scope.names []) s₄.heap.objs.size code bi X.env) x [] elt (List.range s₄.heap.objs.size) wr Pf pz F href (X.A.depth + 1) (X.A.units + 8)) ∧
          (∀ a h₅ tk gs, gs.bare = true → s₄.heap.objs.size < a → h₅.objs.size = a + 1 → (∀ b o, s₄.heap.get? b = some o → h₅.get? b = some o) →
            WalksS X.prog X.w X.A.in4 a (a :: s₄.heap.objs.size :: List.range s₄.heap.objs.size) (s₄.heap.objs.size :: wr) (GenOnlyQ s₄.gens.size) (passing pz n₀ 0).length
              (fun j y => ∃ i, (passing pz n₀ 0)[j]? = some i ∧ F i y) (GenAt X.prog X.w X.A.in4 a s₄.gens.size s₄.heap.objs.size (List.range s₄.heap.objs.size) wr pz n₀ F) →
            GenAt X.prog X.w X.A.in4 a s₄.gens.size s₄.heap.objs.size (List.range s₄.heap.objs.size) wr pz n₀ F 0 { s₄ with gens := s₄.gens.push gs, toks := tk, heap := h₅ } →
            Q' (.ref a) { s₄ with gens := s₄.gens.push gs, toks := tk, heap := h₅ })) X.xe { s1 with heap := h3, toks := tk } := by
    intro code h3 tk ps' hx hsz hP3 hmore ht3
    obtain ⟨bm, ob, e1, e2, e3, e4, e5, e6, e7, e8⟩ := TB.bm
    have hcP : cStatics ≠ P := fun e => by
      obtain ⟨_, hns, _⟩ := I1.nolimit
      obtain ⟨o', es, ep, ho, hd, _⟩ := hns
      rw [e, hPs] at ho
      cases ho
      cases hd
    have hcl : cStatics < s1.heap.objs.size := let ⟨_, hns, _⟩ := I1.nolimit; hns.lt
    have sz2 : (s1.heap.push o).objs.size = s1.heap.objs.size + 1 := Heap.size_push ..
    have keep3 : ∀ b u, b ≠ P → s1.heap.get? b = some u → h3.get? b = some u := fun b u hb e => hx b u hb (Heap.get?_push_of_some _ e)
    refine wpAny_builtinsFor (m := X.mg) (by rw [I1.ok.glob]; exact ((I1.mod.glob.keeps I1.bk).push o).extBut hx TB.gP) e1 e2 (keep3 _ _ e4 (I1.bk _ _ e5)) e6 e7 e8 ?_
    refine ⟨s1.heap.objs.size, [s1.heap.objs.size], [s1.heap.objs.size], a.cps.size, SignAt a, St, (fun _ => true), (fun i y => ∃ cc, a.cps[i]? = some cc ∧ y = .bool (pb cc)), rfl, W, ?_, ?_, lim2.extBut hx hcP, ?_, ?_, ?_⟩
    · refine (W X.A hr.hd).frame _ _ _ hst fun b hb u e => hx b u (fun z => ?_) e
      rcases List.mem_cons.mp hb with z2 | z2
      · exact Nat.ne_of_lt hPlt (z.symm.trans z2)
      · cases z2
    · intro b hb
      rcases List.mem_cons.mp hb with z | z
      · rw [z]
        show s1.heap.objs.size < h3.objs.size
        omega
      · cases z
    · intro z
      rcases List.mem_cons.mp z with z | z
      · exact Nat.ne_of_lt hcl z
      · cases z
    · intro href hhref
      refine ⟨fun A' E' i v s₂ m₂ hA hD hU hPv hn hm hk => ?_, fun A' E' i v s₂ m₂ hA hD hU hPv hp hn hm hk => ?_⟩
      · simp only [List.forIn_nil]
        exact wpAny_pure ⟨rfl, keeps_refl _⟩
      · obtain ⟨cc, u, hcc, rfl⟩ := hPv
        have kb : ∀ b o, X.base.get? b = some o → s₂.heap.get? b = some o := fun b o e => by
          have e1 := I1.bk b o e
          have lt := Heap.lt_size e1
          refine hk b (List.mem_range.mpr ?_) (fun z => ?_) o (hhref b o (keep3 b o (nb b o e) e1))
          · exact Nat.lt_of_lt_of_le lt (show s1.heap.objs.size ≤ h3.objs.size by omega)
          · rcases List.mem_cons.mp z with z | z
            · rw [z] at lt; exact Nat.lt_irrefl _ lt
            · cases z
        exact wpAny_mono (hel I1.mod _ A' E' cc u s₂ m₂ hA hD hU rfl I1.ok.glob hn hm kb) (fun y s3 r => ⟨⟨cc, hcc, r.1⟩, r.2⟩) fun _ _ e => e
    · intro g h5 tk5 gs hgb hag hsz5 hk5 W5 hat
      simp only [GxR.passing_true, List.length_range] at W5
      refine hQ a H1 g _ q1 ⟨_, _, _, _, _, W5.in4_1, hat, ?_, fun s' hm => ?_⟩
      · intro j y sj Qj Ej hy hQj
        obtain ⟨i, hij, cc, hcc, rfl⟩ := hy
        obtain ⟨hj, ej⟩ := List.getElem?_eq_some_iff.mp hij
        rw [List.getElem_range] at ej
        subst ej
        have e9 : a.cps.toList[j]? = some cc := by rw [Array.getElem?_toList]; exact hcc
        have hQ2 : Qj (trF pb a.cps.toList j) sj := hQj
        rw [trF_some e9] at hQ2
        exact wpAny_truthy_bool hQ2
      · obtain ⟨more, em⟩ := hmore
        have nwr : ∀ b u, s1.heap.get? b = some u → b ∉ h3.objs.size :: [s1.heap.objs.size] := fun b u e hb => by
          have hl := Heap.lt_size e
          rcases List.mem_cons.mp hb with z | z
          · rw [z] at hl
            have h9 : (h3.objs.size : Nat) < s1.heap.objs.size := hl
            omega
          · rcases List.mem_cons.mp z with z | z
            · rw [z] at hl
              exact Nat.lt_irrefl _ hl
            · cases z
        have J := inv_tab (more := more) (h' := s'.heap) (g' := s'.gens) (d' := s'.drawn) (t' := s'.toks) I1 hP (fun b u hb e => hm.heap b u (nwr b u e) (hk5 b u (keep3 b u hb e)))
          (by rw [← em]; exact hm.heap P _ (nwr P _ hPs) (hk5 P _ hP3)) (AllBare.movedS (I1.bare.push hgb) hm)
        rw [sh_eta s1 s' hm.os] at J
        refine ⟨L2.upd H1 P (.tbl (ps ++ more)), ⟨⟨ps ++ more, upd_same, by rw [← em]; exact ht3⟩, fun b hb => upd_ne hb⟩, J⟩
  refine ⟨lim2, ?_⟩
  cases hf : codeAmong gpos ps.toList with
  | none =>
    refine wpAny_genexprCodeX hcode (cd.code hP2 ht) (cd.tab hP2) hf fun c' h' tk hx hge hlt hco' _ htab' _ => ?_
    obtain ⟨o1, vs, f1, tf, fl, tg, inF, tx, tt, op, _, _, _, _, _, _, _, _, _, htr, _⟩ := hco'
    exact cont _ h' tk _ hx (Nat.le_trans hge (Nat.le_of_lt hlt)) htab'.2 ⟨_, rfl⟩ htr
  | some cv =>
    refine wpAny_genexprCode_hit hcode (cd.code hP2 ht) hf ?_
    exact cont cv (s1.heap.push o) s1.toks ps (Heap.ExtBut.refl _ _) (Nat.le_refl _) hP2 ⟨#[], by simp⟩ ht
/-- all(f(x) for x in a text) -/
theorem pe_allSD {c P : Addr} {elt iter : Expr} {x : Str} {px p pos gpos : Pos} {scope : Scope} {pb : Nat → Bool} {te : TE} {k : Nat}
    (hr : Room k X.A) (hg : Gl X "all") (hm : X.mg "all" = none) (hb : bootBuiltins "all" = some (.builtin "all")) (TB : TabB X.base X.mg c P) (hcode : X.env.code = .ref c) (S : GenS X.env scope x) (hi : PE X iter te) (hel : L2.Mod X.K X.mg X.base → EltD X.prog X.w X.base (X.A.depth + 1) (X.A.units + 8) scope x elt pb)
    (hs : ∀ v, genFold iter X.env v = pure v)
    (he : starEach [.GeneratorExp elt [⟨.Name x px, iter, [], 0⟩] scope gpos] X.env = (false, eval (.GeneratorExp elt [⟨.Name x px, iter, [], 0⟩] scope gpos) X.env) :: starEach [] X.env := by rfl) :
    PE X (.Call (.Name "all" p) [.GeneratorExp elt [⟨.Name x px, iter, [], 0⟩] scope gpos] [] pos) (tAllS P pb te) := by
  refine ⟨fun pins s σ H Q I h => ?_⟩
  refine wpAny_Call_Name_kw (ld_blt I hg hm hb ?_)
  refine PyProof.Rows.callWith_builtin1 ?_ he (by rfl)
  rw [he]
  show wpAny _ _ (spliced ((false, eval (.GeneratorExp elt [⟨.Name x px, iter, [], 0⟩] scope gpos) X.env) :: backTo pos (starEach [] X.env))) _ _ s
  refine Calls.spliced_cons (gen_strD (R := fun a H1 => ∀ H2, Tabbed P H1 H2 → Q (.bl (a.cps.toList.all pb)) H2) hr TB hcode S hi hel hs I h fun a H1 g s5 hR hG => ?_)
  obtain ⟨fp, wr, G, F, St, W, hst, htr, hI⟩ := hG
  refine Calls.spliced_nil ?_
  refine call_all_walkS (W.self 0 _ _ _ hst ⟨g, fp, wr, G, _, F, St, _, rfl, W, hst, htr, fun s' hmv => ?_⟩)
  obtain ⟨H2, hT, J⟩ := hI s' hmv
  refine ⟨.bl _, H2, J, rfl, ?_⟩
  rw [all_signs a pb]
  exact hR H2 hT
end
end Fd

set_option autoImplicit false
set_option Elab.async false
set_option linter.all false
set_option maxRecDepth 100000
set_option maxHeartbeats 4000000
/-! which signs may stand in a text -/
namespace Fd
open PySem PySem.Spec PyProof.Rows L2 RZ
abbrev sMay : Stmt := topS 14
theorem scMay : FnScope ["letter"] ["letter"] (defScope sMay) := ⟨rfl, rfl, rfl, by decide +kernel, rfl, by decide +kernel, by decide +kernel⟩
def mayB (c : Nat) : Bool := decide (c = 10) || (decide (32 ≤ c ∧ c ≤ 126) && decide (c ≠ 37))
theorem sgn1_nl : (Str.ofString "\n").cps.toList = [10] := by decide +kernel
theorem sgn1_sp : (Str.ofString " ").cps.toList = [32] := by decide +kernel
theorem sgn1_ti : (Str.ofString "~").cps.toList = [126] := by decide +kernel
theorem eq_one (c : Nat) : ((⟨#[c]⟩ : Str).cps.toList == (Str.ofString "\n").cps.toList) = decide (c = 10) := by
  rw [sgn1_nl, Bool.eq_iff_iff, beq_iff_eq, decide_eq_true_eq]
  exact List.singleton_inj
theorem keeps_tr {s s' s2 : Shared} (a : Keeps s s') (b : Keeps s' s2) : Keeps s s2 := by
  obtain ⟨h1, t1, rfl, k1⟩ := a
  obtain ⟨h2, t2, rfl, k2⟩ := b
  exact ⟨h2, t2, rfl, fun c o e => k2 c o (k1 c o e)⟩
theorem lt_one (a b : Nat) : ([a] < [b]) ↔ a < b := by
  rw [List.cons_lt_cons_iff]
  constructor
  · rintro (h | ⟨_, h⟩)
    · exact h
    · exact absurd h (List.lt_irrefl [])
  · exact .inl
section
variable {P : Program} {w : World} {K : PySem.W.Frag} {mg : Str → Option Value} {base : Heap}
theorem may_body (M : Mod K mg base) (m_ord : mg "ord" = none) {tk : Tok} (mPS : mg "PERCENT_SIGN" = some (.int 37 tk)) {env : Env} {A' : Around} {E' : Value → Shared → Prop} {s : Shared} {m : Str → Option Value} {c : Nat} {t : Tok}
    (hk : env.scope = defScope sMay) (hg : env.globals = mainGlobals) (hbi : env.builtins = builtinsNs) (hn : s.heap.Ns env.locals m) (hm : m "letter" = some (.str ⟨#[c]⟩ t)) (kb : ∀ b o, base.get? b = some o → s.heap.get? b = some o)
    {Q : Flow → Shared → Prop} (hQ : ∀ s', Keeps s s' → Q (.ret (.bool (mayB c))) s') : wpAny (model P w) A' (execs (defBody sMay) env) Q E' s := by
  have kf : env.scope.kind = .function := by rw [hk]; decide +kernel
  have kl : env.scope.names.lookup ("letter" : Str) = some NameKind.local := by rw [hk]; decide +kernel
  have glo : ∀ x : Str, (defScope sMay).names.lookup x = some NameKind.globalImplicit → env.kindOf x = some .globalImplicit := fun x h => by
    show env.scope.names.lookup x = _
    rw [hk]
    exact h
  have gns : ∀ s' : Shared, Keeps s s' → s'.heap.Ns env.globals mg := fun s' k => by
    rw [hg]
    obtain ⟨h', tk', rfl, hk'⟩ := k
    exact M.glob.keeps fun b o e => hk' b o (kb b o e)
  have letter : ∀ (s' : Shared) (R : Value → Shared → Prop) (p : Pos), Keeps s s' → R (.str ⟨#[c]⟩ t) s' → wpAny (model P w) A' (eval (.Name "letter" p) env) R E' s' := fun s' R p k h => by
    obtain ⟨h', tk', rfl, hk'⟩ := k
    exact wpAny_Name (wpAny_loadName_local kf kl (hn.keeps hk') hm h) (by decide)
  have k0 : ∀ n, Keeps s { s with toks := n } := fun n => GxR.keeps_tok s n
  refine wpAny_execs_cons (wpAny_Return_some (BoolOp_or (wpAny_Compare1 ?_)))
  refine letter _ _ _ (GxR.keeps_refl s) ?_
  refine Calls.Constant_str (PySem.P.eq_str (wpAny_truthy_bool ?_))
  rw [eq_one]
  by_cases c10 : c = 10
  · rw [if_pos (decide_eq_true c10)]
    have e : decide (c = 10) = mayB c := by unfold mayB; rw [decide_eq_true c10]; rfl
    rw [e]
    exact hQ _ (k0 _)
  rw [if_neg (by rw [decide_eq_false c10]; exact Bool.false_ne_true)]
  refine BoolOp_one (BoolOp_and (Compare_chain (Calls.Constant_str (chain_link ?_))))
  refine letter _ _ _ (k0 _) ?_
  refine PySem.P.le_str (wpAny_truthy_bool ?_)
  have r1 : (!decide ((⟨#[c]⟩ : Str).cps.toList < (Str.ofString " ").cps.toList)) = decide (32 ≤ c) := by
    rw [sgn1_sp, Bool.eq_iff_iff, Bool.not_eq_true', decide_eq_false_iff_not, decide_eq_true_eq]
    show ¬ ([c] < [32]) ↔ _
    rw [lt_one]
    omega
  have r2 : (!decide ((Str.ofString "~").cps.toList < (⟨#[c]⟩ : Str).cps.toList)) = decide (c ≤ 126) := by
    rw [sgn1_ti, Bool.eq_iff_iff, Bool.not_eq_true', decide_eq_false_iff_not, decide_eq_true_eq]
    show ¬ ([126] < [c]) ↔ _
    rw [lt_one]
    omega
  rw [r1]
  have fin : ∀ b : Bool, b = mayB c → ∀ n, Q (.ret (.bool b)) { s with toks := n } := fun b e n => by rw [e]; exact hQ _ (k0 n)
  by_cases h1 : 32 ≤ c
  · rw [if_pos (decide_eq_true h1)]
    refine chain_last (Calls.Constant_str (PySem.P.le_str ?_))
    rw [r2]
    refine wpAny_truthy_bool ?_
    by_cases h2 : c ≤ 126
    · rw [if_pos (decide_eq_true h2)]
      refine BoolOp_one (wpAny_Compare1 ?_)
      refine wpAny_Call_Name_kw ?_
      obtain ⟨mb, hb1, hb2⟩ := M.blt
      refine Calls.Name_function_global kf (glo _ (by decide +kernel)) (Calls.loadGlobal_builtin (gns _ (k0 _)) m_ord (by rw [hbi]; exact hb1.keeps kb) ((hb2 _ (by decide)).trans PyProof.Rows.boot_ord) ?_)
      refine PyProof.Rows.callWith_builtin1 (Calls.spliced_cons (letter _ _ _ (k0 _) (Calls.spliced_nil ?_))) rfl rfl
      refine PySem.P.ord_of_char ?_
      refine Calls.Name_function_global kf (glo _ (by decide +kernel)) (Calls.loadGlobal_global (gns _ (k0 _)) mPS ?_)
      refine ne_int ?_
      refine fin _ ?_ _
      unfold mayB
      rw [decide_eq_false c10, decide_eq_true (⟨h1, h2⟩ : 32 ≤ c ∧ c ≤ 126)]
      by_cases h3 : c = 37
      · subst h3; rfl
      · rw [decide_eq_true h3]
        show ((c : Int) != 37) = true
        exact bne_iff_ne.mpr (by omega)
    · rw [if_neg (by rw [decide_eq_false h2]; exact Bool.false_ne_true)]
      refine fin _ ?_ _
      unfold mayB
      rw [decide_eq_false h2, decide_eq_false c10, decide_eq_false fun z : 32 ≤ c ∧ c ≤ 126 => h2 z.2]
      rfl
  · rw [if_neg (by rw [decide_eq_false h1]; exact Bool.false_ne_true)]
    refine wpAny_truthy_bool ?_
    rw [if_neg (by rw [decide_eq_false h1]; exact Bool.false_ne_true)]
    refine fin _ ?_ _
    unfold mayB
    rw [decide_eq_false h1, decide_eq_false c10, decide_eq_false fun z : 32 ≤ c ∧ c ≤ 126 => h1 z.1]
    rfl
theorem may_call (M : Mod K mg base) (m_ord : mg "ord" = none) {tk : Tok} (mPS : mg "PERCENT_SIGN" = some (.int 37 tk)) {f : Addr} {fd : FuncData} (F : Fun K "may_stand" "may_stand" sMay f fd) (bM : Binds K fd ["letter"] [])
    {A' : Around} {s : Shared} {c : Nat} {t : Tok} (hd : A'.depth < recursionLimit) (kb : ∀ b o, base.get? b = some o → s.heap.get? b = some o) :
    codeAny (model P w) A' (.call (.ref f) ⟨[.str ⟨#[c]⟩ t], []⟩) (fun r s' => r = .ok (.ret (.bool (mayB c))) ∧ Keeps s s') s := by
  obtain ⟨oc, od, kV, doc, pm, an, cdv, ct, osl, rfl, lk, hcd⟩ := F.ex
  have KX : K.In s.heap := M.kin.keeps kb
  have lim : s.heap.NoLimit := M.nolimit.keeps kb
  have kl : (defScope sMay).names.lookup ("letter" : Str) = some NameKind.local := by decide +kernel
  refine codeAny_call_function hd (KX _ _ lk) rfl scMay.co scMay.gen rfl (PySem.W.codeRec_of KX hcd) ((bM s [.str ⟨#[c]⟩ t] KX rfl) _ _ _ _ ?_)
  refine wpAny_newFunctionEnv_cells scMay.kind (fun y hy => .inl ?_) fun env he s1 x => ?_
  · rw [List.mem_singleton.mp hy]
    exact kl
  · subst he
    refine ⟨lim.keeps x.toInCall.keep, codeAny_func ?_⟩
    have ks : Keeps s s1 := by
      obtain ⟨h', tk', e, k⟩ := x.done
      exact ⟨h', tk', e, k⟩
    refine may_body (c := c) (t := t) M m_ord mPS rfl rfl rfl x.toInCall.ns ?_ (fun b o e => x.toInCall.keep b o (kb b o e)) (fun s' k => ⟨rfl, ?_⟩)
    · show bindL _ [(("letter" : Str), Value.str ⟨#[c]⟩ t)] _ ("letter" : Str) = _
      unfold bindL bindL
      exact (congrFun (if_pos (by exact kl)) _).trans (if_pos rfl)
    · exact keeps_tr ks k
/-- may_stand(letter), within the generator -/
theorem may_elt (M : Mod K mg base) (m_ord : mg "ord" = none) {tk : Tok} (mPS : mg "PERCENT_SIGN" = some (.int 37 tk)) {f : Addr} {fd : FuncData} (F : Fun K "may_stand" "may_stand" sMay f fd) (bM : Binds K fd ["letter"] []) (gM : mg "may_stand" = some (.ref f))
    {D U : Nat} (hD : D + 1 < recursionLimit) {scope : Scope} {p p2 pos : Pos} (hk : scope.kind = .function) (hl : scope.names.lookup ("letter" : Str) = some NameKind.local) (hf : scope.names.lookup ("may_stand" : Str) = some NameKind.globalImplicit) :
    EltD P w base D U scope "letter" (.Call (.Name "may_stand" p) [.Name "letter" p2] [] pos) mayB := by
  intro cenv A' E' c t s₂ m₂ hA hD' hU hs hg hn hm kb
  have kf : cenv.scope.kind = .function := by rw [hs]; exact hk
  have KX : K.In s₂.heap := M.kin.keeps kb
  refine wpAny_Call_Name_kw (Calls.Name_function_global kf (by show cenv.scope.names.lookup _ = _; rw [hs]; exact hf) (Calls.loadGlobal_global (by rw [hg]; exact M.glob.keeps kb) gM ?_))
  refine PySem.W.callWith_K (h₀ := base) M.kin F.kp (Calls.spliced_cons (wpAny_Name (wpAny_loadName_local kf (by show cenv.scope.names.lookup _ = _; rw [hs]; exact hl) hn hm (Calls.spliced_nil ⟨KX, ?_⟩)) (by decide))) rfl rfl
  refine wpAny_call (codeAny_mono (may_call M m_ord mPS F bM (by omega) kb) fun r s' h => ?_)
  obtain ⟨rfl, k⟩ := h
  exact ⟨rfl, k⟩
end
end Fd

set_option autoImplicit true
set_option Elab.async false
set_option linter.all false
set_option maxRecDepth 100000
set_option maxHeartbeats 4000000
/-! isinstance of a caught error of an own class that has fields -/
namespace Fd
open PySem PySem.Spec PyProof.Rows L2
/-- isinstance(e, c), e the error that the suite holds at a, with the dict d -/
def rIsD (K : PySem.W.Frag) (a : Addr) (cls : Value) (d : Option Addr) : List V → Hp → VK → Prop := fun xs H Q => ∃ (D dd : Addr) (fs : List (Str × V)) (c : V) (cv : Value) (b : Bool), xs = [.ref a, c] ∧ cls = .ref D ∧ d = some dd ∧ ExcC K D ∧ H dd = some (.xd fs) ∧ (∀ u, RelV c u → u = cv) ∧ PySem.W.kitOne K (.ref D) cv = some b ∧ Q (.bl b) H
theorem call_isD {X : Cx} {a : Addr} {oe : Obj} {cls : Value} {d : Option Addr} {pn : List (Addr × Obj)} (hz : Zc cls d oe) (hf : ∃ vs, oe.data = .fields vs) : CallR (X.suite a ((a, oe) :: pn)) (.builtin "isinstance") (rIsD X.K a cls d) := by
  intro pins s σ H xs us Q I r h
  obtain ⟨D, dd, fs, c, cv, b, rfl, rfl, rfl, C, ea, hcv, e, q⟩ := h
  cases r with
  | cons rx rr =>
    cases rr with
    | cons rt rr =>
      cases rr
      cases rx
      have ec := hcv _ rt
      subst ec
      obtain ⟨hget, _⟩ := I.pin (a, oe) (List.mem_append.mpr (.inl List.mem_cons_self))
      obtain ⟨vs, hv⟩ := hf
      have hx : ObjOk X.prog X.w H s.heap dd (.xd fs) := I.hok dd _ ea
      obtain ⟨mA, hns, hr⟩ := hx
      obtain ⟨od, ho, hl⟩ := lookIn_ns hns
      have J : PySem.W.InstAt s.heap a oe D (some od) := ⟨hget, hz.1, by unfold PySem.W.notCls; rw [hv] <;> rfl, by rw [hz.2]; exact ho⟩
      have hcl : (PySem.W.clsIn X.K D).isSome = true := by
        obtain ⟨cd, hc, _⟩ := PySem.W.any_some C.hd
        rw [hc]; rfl
      exact PySem.W.kia_one (PySem.W.kitx_exc hcl C.hg C.hk C.hs C.ha C.hn C.ht C.hm) I.kIn J e (fun z => nomatch z) fun tk => ⟨.bl b, H, I.kept (t' := tk) fun _ _ z => z, rfl, q⟩
end Fd

set_option autoImplicit false
set_option Elab.async false
set_option linter.all false
set_option maxRecDepth 100000
set_option maxHeartbeats 4000000
/-! BadSystem, made and raised; check_characters -/
namespace Fd
open PySem PySem.Spec PyProof.Rows L2 RZ
abbrev sBsI : Stmt := inClass (topS 2) 0
theorem scBsI : FnScope ["self", "line", "reason"] ["self", "line", "reason"] (defScope sBsI) := ⟨rfl, rfl, rfl, by decide +kernel, rfl, by decide +kernel, by decide +kernel⟩
/-- what is known of the class at C -/
structure BsC (K : PySem.W.Frag) (mg : Str → Option Value) (C : Addr) : Prop where
  gC : mg "BadSystem" = some (.ref C)
  O : OexC K C
  noL : PySem.W.findIn K (.ref C) "line" = some none
  noR : PySem.W.findIn K (.ref C) "reason" = some none
def bsD (y z : V) : List (Str × V) := [("reason", z), ("line", y)]
def spBsI (C : Addr) : Sp := fun vs H Q _ => ∃ (a : Addr) (y z : V), vs = [.ref a, y, z] ∧ H a = some (exo a C none) ∧ ∀ H' dx, H dx = none → dx ≠ a → H' a = some (exo a C (some dx)) → H' dx = some (exd dx (bsD y z)) → (∀ b, b ≠ a → b ≠ dx → H' b = H b) → Q .non H'
section
variable {P : Program} {w : World} {K : PySem.W.Frag} {mg : Str → Option Value} {base : Heap}
theorem ok_bsI {f C : Addr} {fd : FuncData} (F : Fun K "__init__" "BadSystem.__init__" sBsI f fd) (T : BsC K mg C) : FnOk P w K mg base CX0 1 f fd ["self", "line", "reason"] (spBsI C) := by
  refine F.ok scBsI (fun vs H Q E h => ?_) (fun cdv A outer s H vs Q E hr h => ?_)
  · obtain ⟨a, y, z, rfl, _⟩ := h
    rfl
  · obtain ⟨a, y, z, rfl, ha, q⟩ := h
    refine ⟨_, pss_cons (ps_ost (pv 0) (pv 1)) (pss_one (ps_ost (pv 0) (pv 2))), ?_⟩
    refine ⟨y, rfl, .ref a, rfl, a, C, rfl, T.O, T.noL, .inl ⟨ha, fun dx nd ne => ?_⟩⟩
    refine ⟨z, rfl, .ref a, rfl, a, C, rfl, T.O, T.noR, .inr ⟨dx, _, upd_same, by rw [upd_ne ne, upd_same], by show 1 ≤ 900; decide, ?_⟩⟩
    refine q _ dx nd ne ?_ upd_same fun b h1 h2 => ?_
    · rw [upd_ne (fun z => ne z.symm), upd_same]
    · rw [upd_ne h2, upd_ne h1, upd_ne h2]
/-- .. and of its making -/
structure BsT (P : Program) (w : World) (K : PySem.W.Frag) (mg : Str → Option Value) (base : Heap) (C fI : Addr) (fd : FuncData) : Prop extends BsC K mg C where
  iC : PySem.W.findIn K (.ref C) "__init__" = some (some (.ref fI))
  tI : PySem.W.typeIn K (.ref fI) = some (.type "function")
  G : FnOk P w K mg base CX0 1 fI fd ["self", "line", "reason"] (spBsI C)
  b : Binds K fd ["self", "line", "reason"] []
end
theorem bs_made {C : Addr} {H : Hp} {y z : V} {Q : XK} (q : ∀ H' d, Same H H' → H' d = some (.xd (bsD y z)) → Q (.ref C) (some d) H') :
    [y, z].length ≤ 1000 ∧ ∀ a, H a = none → spBsI C (.ref a :: ([y, z] ++ [])) (L2.upd H a (exo a C none)) (fun v H2 => v = .non ∧ ∃ (d : Addr) (fs : List (Str × V)), H2 a = some (exo a C (some d)) ∧ H2 d = some (exd d fs) ∧ H d = none ∧ Q (.ref C) (some d) (L2.upd (del H2 a) d (.xd fs))) (fun _ _ _ => False) := by
  refine ⟨by simp, fun a na => ⟨a, y, z, rfl, upd_same, fun H2 dx nd ne e1 e2 e3 => ⟨rfl, dx, _, e1, e2, ?_, q _ dx (fun b o e => ?_) upd_same⟩⟩⟩
  · rw [upd_ne ne] at nd
    exact nd
  · have n1 : b ≠ a := fun z => by rw [z, na] at e; cases e
    have n2 : b ≠ dx := fun z => by
      rw [upd_ne ne] at nd
      rw [z, nd] at e; cases e
    rw [upd_ne n2, del_ne n1, e3 b n1 n2, upd_ne n1]
    exact e
end Fd

set_option autoImplicit true
set_option Elab.async false
set_option linter.all false
set_option maxRecDepth 100000
set_option maxHeartbeats 2000000
/-! Data that repr shows: ints, bools, budgets; more of the heap. -/
namespace Fd
open PySem PySem.Spec PyProof.Rows L2 RZ
theorem small_log {x : Int} (h : x.natAbs < 10 ^ 12) : x.natAbs.log2 < 1920 := by
  refine log2_small (Nat.lt_of_lt_of_le h ?_)
  decide +kernel
/-- a row of ints -/
theorem ints_small : ∀ (l : List Int), (∀ x ∈ l, x.natAbs < 10 ^ 12) → PyData.showableAll (l.map PyData.int) = true ∧ PyData.hasDictAll (l.map PyData.int) = false ∧ PyData.leavesShortAll 13 (l.map PyData.int) = true ∧
    PyData.bulkAll (l.map PyData.int) = l.length ∧ PyData.depthAll (l.map PyData.int) ≤ 1
  | [], _ => by simp [PyData.showableAll, PyData.hasDictAll, PyData.leavesShortAll, PyData.bulkAll, PyData.depthAll]
  | x :: l, h => by
    obtain ⟨h1, h2, h3, h4, h5⟩ := ints_small l fun y hy => h y (List.mem_cons_of_mem _ hy)
    have hx := h x List.mem_cons_self
    have e1 := PyData.shown_int_le hx
    have e2 := small_log hx
    refine ⟨?_, ?_, ?_, ?_, ?_⟩
    · simp only [List.map_cons, PyData.showableAll, PyData.showable, h1, e2, decide_true, Bool.and_self]
    · simp only [List.map_cons, PyData.hasDictAll, PyData.hasDict, h2, Bool.or_self]
    · simp only [List.map_cons, PyData.leavesShortAll, PyData.leavesShort, h3, e1, decide_true, Bool.and_self]
    · simp only [List.map_cons, PyData.bulkAll, PyData.bulk, h4, List.length_cons]; omega
    · simp only [List.map_cons, PyData.depthAll, PyData.depth]; omega
theorem small_list {l : List Int} (h : ∀ x ∈ l, x.natAbs < 10 ^ 12) (hl : l.length ≤ 100000) : smallD (.list (l.map PyData.int)) := by
  obtain ⟨h1, h2, h3, h4, h5⟩ := ints_small l h
  refine ⟨by simpa only [PyData.showable] using h1, by simpa only [PyData.hasDict] using h2, by simpa only [PyData.leavesShort] using h3, ?_, ?_⟩
  · simp only [PyData.bulk]; omega
  · simp only [PyData.depth]; omega
theorem small_tup {l : List Int} (h : ∀ x ∈ l, x.natAbs < 10 ^ 12) (hl : l.length ≤ 100000) : smallD (.tuple (l.map PyData.int)) := by
  obtain ⟨h1, h2, h3, h4, h5⟩ := ints_small l h
  refine ⟨by simpa only [PyData.showable] using h1, by simpa only [PyData.hasDict] using h2, by simpa only [PyData.leavesShort] using h3, ?_, ?_⟩
  · simp only [PyData.bulk]; omega
  · simp only [PyData.depth]; omega
theorem small_bool (b : Bool) : smallD (.bool b) := by
  refine ⟨by simp only [PyData.showable], by simp only [PyData.hasDict], by simp only [PyData.leavesShort], ?_, ?_⟩
  · simp only [PyData.bulk]; omega
  · simp only [PyData.depth]; omega
theorem small_int {x : Int} (h : x.natAbs < 10 ^ 12) : smallD (.int x) := by
  have e1 := PyData.shown_int_le h
  have e2 := small_log h
  refine ⟨by simp only [PyData.showable, e2, decide_true], by simp only [PyData.hasDict], by simp only [PyData.leavesShort, e1, decide_true], ?_, ?_⟩
  · simp only [PyData.bulk]; omega
  · simp only [PyData.depth]; omega
theorem dp_ints {K : PySem.W.Frag} {H : Hp} : ∀ l : List Int, DpAll K H (iv l) (l.map PyData.int)
  | [] => .nil
  | x :: l => .cons (.int x) (dp_ints l)
theorem dp_list {K : PySem.W.Frag} {H : Hp} {a : Addr} {l : List Int} (h : H a = some (.lst (iv l))) : Dp K H (.ref a) (.list (l.map PyData.int)) := .lst (SqL.of h) (dp_ints l)
theorem dp_tup {K : PySem.W.Frag} {H : Hp} {a : Addr} {l : List Int} (h : H a = some (.tup (iv l))) : Dp K H (.ref a) (.tuple (l.map PyData.int)) := .tup (SqT.of h) (dp_ints l)
/-- a name that repr shows shortly -/
def nmOk (x : Str) : Prop := x.cps.size ≤ 10 ∧ (x.cps.toList.all fun c => decide (c < 16 ^ 8)) = true
def bdD (b : Bd) : PyData := .tuple [.str b.nm, .int b.cap, .int b.par]
def bdOk (b : Bd) : Prop := nmOk b.nm ∧ b.cap.natAbs < 10 ^ 12 ∧ b.par.natAbs < 10 ^ 12
theorem buds_small : ∀ (B : List Bd), (∀ b ∈ B, bdOk b) → PyData.showableAll (B.map bdD) = true ∧ PyData.hasDictAll (B.map bdD) = false ∧ PyData.leavesShortAll 13 (B.map bdD) = true ∧
    PyData.bulkAll (B.map bdD) ≤ 20 * B.length ∧ PyData.depthAll (B.map bdD) ≤ 3
  | [], _ => by simp [PyData.showableAll, PyData.hasDictAll, PyData.leavesShortAll, PyData.bulkAll, PyData.depthAll]
  | b :: B, h => by
    obtain ⟨h1, h2, h3, h4, h5⟩ := buds_small B fun y hy => h y (List.mem_cons_of_mem _ hy)
    obtain ⟨⟨n1, n2⟩, c, p⟩ := h b List.mem_cons_self
    have e1 := PyData.shown_int_le c
    have e2 := small_log c
    have e3 := PyData.shown_int_le p
    have e4 := small_log p
    refine ⟨?_, ?_, ?_, ?_, ?_⟩
    · simp only [List.map_cons, bdD, PyData.showableAll, PyData.showable, e2, e4, decide_true, Bool.and_self, Bool.true_and]
      exact h1
    · simp only [List.map_cons, bdD, PyData.hasDictAll, PyData.hasDict, Bool.or_self, Bool.false_or]
      exact h2
    · simp only [List.map_cons, bdD, PyData.leavesShortAll, PyData.leavesShort, e1, e3, n2, decide_true, Bool.and_self, Bool.true_and]
      exact h3
    · have q : PyData.bulkAll (B.map bdD) ≤ 20 * B.length := h4
      simp only [List.map_cons, bdD, PyData.bulkAll, PyData.bulk, List.length_cons]
      omega
    · have q : PyData.depthAll (B.map bdD) ≤ 3 := h5
      simp only [List.map_cons, bdD, PyData.depthAll, PyData.depth]
      omega
theorem small_buds {B : List Bd} (h : ∀ b ∈ B, bdOk b) (hl : B.length ≤ 1000) : smallD (.tuple (B.map bdD)) := by
  obtain ⟨h1, h2, h3, h4, h5⟩ := buds_small B h
  refine ⟨by simpa only [PyData.showable] using h1, by simpa only [PyData.hasDict] using h2, by simpa only [PyData.leavesShort] using h3, ?_, ?_⟩
  · simp only [PyData.bulk]; omega
  · simp only [PyData.depth]; omega
theorem dp_buds {K : PySem.W.Frag} {H : Hp} {p : Addr} {B : List Bd} (h : BudAt H p B) : Dp K H (.ref p) (.tuple (B.map bdD)) := by
  obtain ⟨rs, h1, h2, h3⟩ := h
  refine .tup (SqT.of h1) ?_
  clear h1
  induction B generalizing rs with
  | nil =>
    have e : rs = [] := List.length_eq_zero_iff.mp h2
    subst e
    exact .nil
  | cons b B ih =>
    cases rs with
    | nil => cases h2
    | cons r rs =>
      obtain ⟨r', e1, e2⟩ := h3 0 b rfl
      obtain rfl : r = r' := Option.some.inj e1
      refine .cons (.tup (SqT.of e2) (.cons (.str _) (.cons (.int _) (.cons (.int _) .nil)))) (ih rs (by simpa using h2) fun i b' e => ?_)
      obtain ⟨r2, g1, g2⟩ := h3 (i + 1) b' (by simpa using e)
      exact ⟨r2, by simpa using g1, g2⟩
/-! ### what is used stays small -/
theorem U_bound {B : List Bd} {f : Nat → Int} {c : Int} (hc : 0 ≤ c) (hf : ∀ j, j < B.length → 0 ≤ f j ∧ f j ≤ c) (k : Nat) : 0 ≤ U B f k ∧ U B f k ≤ B.length * c := by
  unfold U
  refine ⟨sm_nonneg fun j hj => ?_, sm_le fun j hj => ?_⟩
  · split
    · exact (hf j hj).1
    · exact Int.le_refl 0
  · split
    · exact (hf j hj).2
    · exact hc
end Fd

set_option autoImplicit true
set_option Elab.async false
set_option linter.all false
set_option maxRecDepth 100000
set_option maxHeartbeats 2000000
/-! sorted(range(n), key=lambda at: (-p[at], at)) -/
namespace FdS
open PySem PySem.W PySem.Calls PyProof.Rows

section
variable {prog : Program} {w : World} {A : Around} {E : Value → Shared → Prop} {s : Shared}
theorem each_of {R : Value → Nat → Prop} : ∀ (vs : List Value) (f : Nat → Nat), (∀ j u, vs[j]? = some u → R u (f j)) → EachIs R vs ((List.range vs.length).map f)
  | [], _, _ => .nil
  | v :: vs, f, h => by
    rw [List.length_cons, List.range_succ_eq_map, List.map_cons, List.map_map]
    exact .cons (h 0 v rfl) (each_of vs (f ∘ Nat.succ) fun j u e => h (j + 1) u (by simpa using e))
/-- what an int of the list stands for -/
def IsNat (v : Value) (i : Nat) : Prop := ∃ t, v = .int (i : Int) t
theorem sorted_key_range {r : Addr} {n : Nat} {t u v : Tok} {f : Addr} {Q : Value → Shared → Prop} (k : Nat → PyData)
    (hh : A.handled = none) (hr : IsRange s.heap r 0 n 1 t u v) (hn : n ≤ 1000) (hal : AllAlike ((List.range n).map k)) (hk : Sortable ((List.range n).map k))
    (hu : ∀ i, i < n → A.units + 2 + (k i).depth < cLine)
    (turn : ∀ (i : Nat) (x : Value), i < n → IsNat x i → ∀ (h : Heap) (tk : Nat), (∀ b o, s.heap.get? b = some o → h.get? b = some o) →
      wpAny (model prog w) A.in1.in1 (call (.ref f) [x]) (KeyPure (k i) { s with heap := h, toks := tk }) (fun _ _ => False) { s with heap := h, toks := tk })
    (h : ∀ out c h' tk p, (∀ b o, s.heap.get? b = some o → h'.get? b = some o) → s.heap.get? p = none → h'.get? p = some (seqObj "list" (List.toArray out) c) →
      EachIs IsNat out ((List.range n).mergeSort (dataLe false k)) → Q (.ref p) { s with heap := h', toks := tk }) :
    wpAny (model prog w) A (call (.builtin "sorted") [.ref r] [(Str.ofString "key", .ref f)]) Q E s := by
  have sz := sizeLine_eq
  refine call_function_entry_kw kind_sorted plain_sorted entry_sorted (ksk_s1 _ _) ?_
  unfold Builtin.«sorted»
  refine wpAny_bind (m := checkCount "sorted" 1 1 _) (wpAny_pure ?_)
  refine wpAny_bind (L2.collect_range (n := n) (A := A.in1) hh hr (small_one (by omega) (by omega) (by omega) (by omega)) (by rw [rangeSize_nat]; omega) (by omega) fun h1 tk1 acc hk1 items => ?_)
  have hlen : acc.toList.length = n := by rw [Array.length_toList]; exact items.1
  have each : EachIs IsNat acc.toList (List.range n) := by
    have e := each_of (R := IsNat) acc.toList (fun j => j) fun j x hx => by
      obtain ⟨t', e'⟩ := items.2 j x (by rw [← hx, Array.getElem?_toList])
      exact ⟨t', by rw [e']; congr 1; omega⟩
    rw [hlen] at e
    simpa using e
  refine wpAny_bind (wpAny_newList ?_ (by omega))
  have ho : (h1.push { cls := .type "list", data := .seq acc.toList.toArray }).get? h1.objs.size = some (seqObj "list" acc.toList.toArray 0) := Heap.get?_push_size _ rfl
  have keep1 : ∀ b o, s.heap.get? b = some o → (h1.push { cls := .type "list", data := .seq acc.toList.toArray }).get? b = some o := fun b o e => Heap.get?_push_of_some _ (hk1 b o e)
  have up : ∀ {g : Heap}, KeepsBut h1.objs.size (h1.push { cls := .type "list", data := .seq acc.toList.toArray }) g → ∀ b o, s.heap.get? b = some o → g.get? b = some o := fun {g} kp b o e =>
    kp b o (Nat.ne_of_lt (Heap.lt_size (hk1 b o e))) (keep1 b o e)
  refine wpAny_bind (wpAny_holding (wpAny_call_entry_kw slot_list_sort ⟨_, ho, rfl⟩ entry_list_sort ?body (ksk_l1 _ _)))
  case body =>
    show wpAny (model prog w) A.in1.in1 (Builtin.«list.sort» ⟨[.ref h1.objs.size], [(Str.ofString "key", .ref f)]⟩) _ _ _
    rw [ksk_t1]
    have bound : ∀ d, d ∈ (List.range n).map k → (A.in1.in1).units + d.depth < cLine := by
      intro d hd
      obtain ⟨i, hi, rfl⟩ := List.mem_map.mp hd
      have q := hu i (List.mem_range.mp hi)
      show A.units + 1 + 1 + (k i).depth < cLine
      omega
    refine keyH_tree (kz := (List.range n).map k) (vs := acc.toList) (s := { s with heap := h1.push { cls := .type "list", data := .seq acc.toList.toArray }, toks := tk1 }) (A := A.in1.in1) ho (by rw [List.length_map, List.length_range]; exact hlen.symm) (by omega) hal hk bound
      (keyH_turns (k := k) (s := { s with heap := h1.push { cls := .type "list", data := .seq acc.toList.toArray }, toks := tk1 }) each fun x i hx hi hp tk kp => turn i x (List.mem_range.mp hi) hx hp tk (up kp)) fun h' tk out c kp hD ko => ⟨_, rfl, wpAny_pure ⟨_, rfl, ?_⟩⟩
    refine h out c h' tk _ (up kp) ?_ hD (keyedOut_each k ko each)
    cases q : s.heap.get? h1.objs.size with
    | none => rfl
    | some o => exact absurd (Heap.lt_size (hk1 _ _ q)) (Nat.lt_irrefl _)
/-- (-p, i) -/
def keyD (p : Int) (i : Nat) : PyData := .tuple [.int (-p), .int (i : Int)]
/-- one call of the key -/
theorem key_turn {f c' cp pa : Addr} {q py pm_ : Str} {params : Arguments} {scope : Scope} {cl : List (Str × Addr)} {pm ctv : Value} {oc : Obj} {cvs : Array Value} {ct : Tok} {items : List Value} {i : Nat} {x : Value} {pi : Int} {t : Tok}
    {a1 a2 a3 a4 a5 a6 : Pos} {kk : Nat}
    (hd : A.depth < recursionLimit) (lim : s.heap.NoLimit)
    (hf : s.heap.get? f = some (kla_obj "<lambda>" q params (.Tuple [.UnaryOp .USub (.Subscript (.Name py a1) (.Name pm_ a2) a3) a4, .Name pm_ a5] kk a6) scope cl pm c' ctv))
    (hoc : s.heap.get? c' = some oc) (hdc : oc.data = .fields cvs) (hq : cvs[1]? = some (.str q ct))
    (hbind : ∀ v, bindArgs (kla_fn "<lambda>" q params (.Tuple [.UnaryOp .USub (.Subscript (.Name py a1) (.Name pm_ a2) a3) a4, .Name pm_ a5] kk a6) scope cl pm (.ref c') ctv) ⟨[v], []⟩ = pure [(pm_, v)])
    (co : scope.isCoroutine = false) (gen : scope.isGenerator = false) (kind : scope.kind = .function) (hcell : ∀ y ∈ scope.names, y.2 ≠ .cell) (hpar : scope.names.lookup pm_ = some .local) (hfree : scope.names.lookup py = some .free)
    (hcp : cl.lookup py = some cp) (hic : s.heap.IsCell cp (some (.ref pa))) (htp : IsTup s.heap pa items.toArray) (hi : items[i]? = some (.int pi t)) (hil : items.length ≤ 1000) (hx : IsNat x i)
    (d1 : (py == ("__debug__" : Str)) = false) (d2 : (py == ("__classdict__" : Str)) = false) (d3 : (pm_ == ("__debug__" : Str)) = false) :
    wpAny (model prog w) A (call (.ref f) [x]) (KeyPure (keyD pi i) s) (fun _ _ => False) s := by
  obtain ⟨tx, rfl⟩ := hx
  refine wpAny_call (kla_callFunE hd hf rfl co gen rfl ⟨c', oc, cvs, ct, rfl, hoc, hdc, hq⟩ ?_)
  rw [hbind]
  refine wpAny_pure (wpAny_newFunctionEnv hcell (fun y hy => ?_) (fun h1 hns hsb => ⟨lim.fresh _ hsb, ?_⟩) kind)
  · obtain rfl := List.mem_singleton.mp hy
    exact hpar
  have kp : ∀ b o, s.heap.get? b = some o → h1.get? b = some o := fun b o e => hsb.extBut b o (Nat.ne_of_lt (Heap.lt_size e)) (Heap.get?_push_of_some _ e)
  have hI : i < items.length := (List.getElem?_eq_some_iff.mp hi).1
  refine kla_codeExpr ?_
  show wpAny _ _ (eval (.Tuple [.UnaryOp .USub (.Subscript (.Name py a1) (.Name pm_ a2) a3) a4, .Name pm_ a5] kk a6) (envX q scope s.heap.objs.size f (.ref c') cl)) _ _ _
  have ldA : ∀ {ps : Pos} {M : Model} {A : Around} {Q : Value → Shared → Prop} {E : Value → Shared → Prop} (tk : Nat), Q (.int (i : Int) tx) { s with heap := h1, toks := tk } →
      wpAny M A (eval (.Name pm_ ps) (envX q scope s.heap.objs.size f (.ref c') cl)) Q E { s with heap := h1, toks := tk } := fun {ps M A Q E} tk hQ =>
    wpAny_Name (wpAny_loadName_local (env := envX q scope s.heap.objs.size f (.ref c') cl) kind hpar (s := { s with heap := h1, toks := tk }) hns (by simp) hQ) d3
  refine wpAny_Tuple_spliced ?_
  show wpAny _ _ (spliced ((false, eval (.UnaryOp .USub (.Subscript (.Name py a1) (.Name pm_ a2) a3) a4) (envX q scope s.heap.objs.size f (.ref c') cl)) :: backTo a6 (starEach [.Name pm_ a5] (envX q scope s.heap.objs.size f (.ref c') cl)))) _ _ _
  refine Calls.spliced_cons (UnaryOp_ (Subscript_ ?_))
  refine wpAny_Name (wpAny_loadName_free (env := envX q scope s.heap.objs.size f (.ref c') cl) kind hfree hcp (s := { s with heap := h1, toks := s.toks + 1 }) (let ⟨o, ho, hd⟩ := hic; ⟨o, kp _ _ ho, hd⟩) ?_ d2) d1
  refine ldA _ ?_
  have tup : IsTup h1 pa items.toArray := let ⟨o, ho, r⟩ := htp; ⟨o, kp _ _ ho, r⟩
  refine subscriptTail_builtinR (x := .int pi t) (s := { s with heap := h1, toks := s.toks + 1 }) tup.typeIs slot_tuple_getitem.lookup
    (getItem_tuple (j := i) (s := { s with heap := h1, toks := s.toks + 1 }) tup (by omega) (by omega) ?_ (by simpa using hi) ⟨rfl, ?_⟩) (by rfl)
  · unfold seqIndex?
    simp
    omega
  refine neg_int ?_
  show wpAny _ _ (spliced ((false, eval (.Name pm_ a5) (envX q scope s.heap.objs.size f (.ref c') cl)) :: backTo a6 (starEach [] (envX q scope s.heap.objs.size f (.ref c') cl)))) _ _ _
  refine Calls.spliced_cons (ldA _ (Calls.spliced_nil ⟨by show 2 ≤ sizeLine; decide, ?_⟩))
  refine ⟨_, _, rfl, fun b o e => Heap.get?_push_of_some _ (kp b o e), ?_⟩
  exact Reads.tuple (Heap.get?_push_size _ rfl) rfl rfl (ReadsAll.cons (Reads.int _ _) (ReadsAll.cons (Reads.int _ _) ReadsAll.nil))
end
end FdS

set_option autoImplicit true
set_option Elab.async false
set_option linter.all false
set_option maxRecDepth 100000
set_option maxHeartbeats 2000000
/-! the sort by a key, as a rule of the layer -/
namespace FdS
open PySem PySem.Spec PyProof.Rows L2 LamX Fd

/-- what is tracked is laid anew at a place where nothing was -/
theorem un_at {fs ex : List Addr} {H : Hp} {h h' : Heap} {a : Addr} {o : HO} (k : ∀ b u, h.get? b = some u → h'.get? b = some u) (hp : h.get? a = none) (hn : H a = none) : Un fs ex H (L2.upd H a o) h h' where
  keep := fun b u q _ _ _ => k b u q
  slot := fun b u q _ _ _ => ⟨u.slots, k b u q⟩
  free := fun b u q n _ => by
    rw [upd_ne (fun z => by rw [z, hp] at q; cases q)]
    exact n
  there := fun b u q _ => ⟨u, k b u q⟩
  tups := fun b xs q => by rw [upd_ne (ne_of_none q hn)]; exact q
  frzs := fun b u xs q => by rw [upd_ne (ne_of_none q hn)]; exact q
  tbls := fun b ps q => ⟨#[], by rw [upd_ne (ne_of_none q hn), q]; simp⟩
theorem hok_at {P : Program} {w : World} {H : Hp} {h h' : Heap} {a : Addr} {o : HO} (x : HOk P w H h) (k : ∀ b u, h.get? b = some u → h'.get? b = some u) (hn : H a = none) (new : ObjOk P w (L2.upd H a o) h' a o) : HOk P w (L2.upd H a o) h' := by
  intro b u e
  by_cases hb : b = a
  · subst hb
    rw [upd_same] at e
    cases e
    exact new
  · rw [upd_ne hb] at e
    refine (x b u e).stay (fun c v _ q => k c v q) (fun c q => ?_) fun c xs q => ?_
    · rw [upd_ne (ne_of_none q hn)]; exact q
    · rw [upd_ne (ne_of_none q hn)]; exact q
theorem hok_none {P : Program} {w : World} {H : Hp} {h : Heap} {a : Addr} (x : HOk P w H h) (hp : h.get? a = none) : H a = none := by
  cases q : H a with
  | none => rfl
  | some u =>
    have e := x a u q
    exfalso
    have : ∃ o, h.get? a = some o := by
      cases u with
      | lst xs => obtain ⟨_, _, _, _, e⟩ := e; exact ⟨_, e⟩
      | tup xs => obtain ⟨_, _, _, o, e, _⟩ := e; exact ⟨_, e⟩
      | dK kvs => obtain ⟨_, _, _, _, o, _, _, e, _⟩ := e; exact ⟨_, e⟩
      | dT kvs => obtain ⟨_, _, _, _, o, _, _, e, _⟩ := e; exact ⟨_, e⟩
      | set S n => obtain ⟨o, _, _, _, e, _⟩ := e; exact ⟨_, e⟩
      | ins C dx fs => obtain ⟨_, _, _, e, _⟩ := e; exact ⟨_, e⟩
      | own y => exact e
      | xd fs => obtain ⟨_, ⟨_, _, _, e, _⟩, _⟩ := e; exact ⟨_, e⟩
      | rng lo hi => obtain ⟨_, _, _, e⟩ := e; exact ⟨_, e⟩
      | frz ob u => exact ⟨_, e.1⟩
      | tbl ps => exact ⟨_, (show h.get? a = some _ from e)⟩
      | met f y => exact ⟨_, (show h.get? a = some _ from e)⟩
      | ext φ => exact e.2.1
    obtain ⟨o, e⟩ := this
    rw [hp] at e
    cases e
/-- indices by (-p, index) -/
def ordP (n : Nat) (ps : Nat → Int) : List Nat := (List.range n).mergeSort (PySem.W.dataLe false (fun i => keyD (ps i) i))
def natV (l : List Nat) : List V := l.map fun (i : Nat) => V.int (i : Nat)
def tSortLam (K : PySem.W.Frag) (T : List (Addr × Str)) (jp : Nat) (te : TE) : TE := fun σ H Q => te σ H fun z H1 => (∃ m, z = .int m) ∧ Tabs T H1 ∧
  ∃ (n : Nat) (pa : Addr) (ps : Nat → Int), z = .int n ∧ n ≤ 1000 ∧ σ[jp]? = some (some (.ref pa)) ∧ H1 pa = some (.tup (iv (fl n ps))) ∧
    ∀ HL l, ExtN H1 HL → Tabs T HL → HL l = none → Q (.ref l) (L2.upd HL l (.lst (natV (ordP n ps))))
theorem vals_nat : ∀ {out : List Value} {l : List Nat}, PySem.W.EachIs IsNat out l → Vals (natV l) out
  | _, _, .nil => .nil
  | _, _, .cons h r => .cons h (vals_nat r)
section
variable {X : Cx}
/-- range(n): a new object, pinned -/
theorem rg_new {a : Expr} {ta : TE} {p pos : Pos} (hg : Gl X "range") (hm : X.mg "range" = none) (ha : PE X a ta) (na : starEach [a] X.env = (false, eval a X.env) :: starEach [] X.env := by rfl)
    {pins : List (Addr × Obj)} {s : Shared} {σ : L2.St} {H : Hp} {Q : V → Hp → Prop} (I : L2.Inv X pins σ H s) (h : ta σ H fun x H1 => (∃ n, x = .int n) ∧ Q x H1) :
    wpAny (model X.prog X.w) X.A (eval (.Call (.Name "range" p) [a] [] pos) X.env) (fun x s' => ∃ (r : Addr) (ob : Obj) (n : Int) (H' : Hp), x = .ref r ∧ (∀ g : Heap, g.get? r = some ob → ∃ t u v, IsRange g r 0 n 1 t u v) ∧
      L2.Inv X ((r, ob) :: pins) σ H' s' ∧ Q (.int n) H') X.xe s := by
  refine Call_ (ld_blt I hg hm boot_range (PyProof.Rows.callWith_type1 (one_arg ha I h (fun v s2 x H2 I2 r q => ?_) na) na))
  obtain ⟨⟨n, rfl⟩, q⟩ := q
  obtain ⟨t, rfl⟩ := r
  have hz := Heap.get?_push_size s2.heap (o := { cls := .type "range", data := .fields #[.int 0 s2.toks, .int n t, .int 1 (s2.toks + 1)] }) rfl
  have I3 : L2.Inv X pins σ H2 { s2 with heap := s2.heap.push { cls := .type "range", data := .fields #[.int 0 s2.toks, .int n t, .int 1 (s2.toks + 1)] }, toks := s2.toks + 1 + 1 } := I2.kept fun b u e => Heap.get?_push_of_some _ e
  refine call_range_1 ⟨s2.heap.objs.size, { cls := .type "range", data := .fields #[.int 0 s2.toks, .int n t, .int 1 (s2.toks + 1)] }, n, H2, rfl, fun g hgt => ⟨s2.toks, t, s2.toks + 1, hgt⟩, I3.pins_of fun p hp => ?_, q⟩
  rcases List.mem_cons.mp hp with z | hp
  · subst z
    exact ⟨hz, I2.hok.fresh (Nat.le_refl _), Nat.ne_of_gt I2.lt, I2.nofs (Nat.le_refl _), fun v z => nomatch z⟩
  · exact I3.pin p (List.mem_append_right _ hp)
theorem pe_sortedLam {T : List (Addr × Str)} {c P : Addr} {e : Expr} {te : TE} {p p2 pos pos2 kpos lpos a1 a2 a3 a4 a5 a6 : Pos} {kk jp k : Nat} {py pm_ : Str} {params : Arguments} {scope : Scope}
    (hg : Gl X "sorted") (hm : X.mg "sorted" = none) (hg2 : Gl X "range") (hm2 : X.mg "range" = none) (he : PE X e te) (TB : TabB X.base X.mg c P) (hcode : X.env.code = .ref c) (hT : (P, X.env.qual ++ "<lambda>") ∈ T) (hu : ∀ p ∈ T, p.1 = P → p.2 = X.env.qual ++ "<lambda>")
    (hr : Room k X.A) (hc : X.calm = true) (hN : X.N[jp]? = some py) (hcx : X.env.scope.names.lookup py = some .cell)
    (hbind : ∀ (cl : List (Str × Addr)) (pm cdv ct v : Value), bindArgs (PySem.W.kla_fn "<lambda>" (X.env.qual ++ "<lambda>") params (.Tuple [.UnaryOp .USub (.Subscript (.Name py a1) (.Name pm_ a2) a3) a4, .Name pm_ a5] kk a6) scope cl pm cdv ct) ⟨[v], []⟩ = pure [(pm_, v)])
    (co : scope.isCoroutine = false) (gen : scope.isGenerator = false) (kind : scope.kind = .function) (hcell : ∀ y ∈ scope.names, y.2 ≠ .cell) (hpar : scope.names.lookup pm_ = some .local) (hfree : scope.names.lookup py = some .free) (hfr1 : ∀ y ∈ scope.names, y.2 = .free → y.1 = py)
    (hdef : defaultsOf params X.env = ([], []) := by rfl) (d1 : (py == ("__debug__" : Str)) = false := by decide) (d2 : (py == ("__classdict__" : Str)) = false := by decide) (d3 : (pm_ == ("__debug__" : Str)) = false := by decide)
    (na : starEach [e] X.env = (false, eval e X.env) :: starEach [] X.env := by rfl) (nr : starEach [.Call (.Name "range" p2) [e] [] pos2] X.env = (false, eval (.Call (.Name "range" p2) [e] [] pos2) X.env) :: starEach [] X.env := by rfl) :
    PE X (.Call (.Name "sorted" p) [.Call (.Name "range" p2) [e] [] pos2] [⟨some "key", .Lambda params (.Tuple [.UnaryOp .USub (.Subscript (.Name py a1) (.Name pm_ a2) a3) a4, .Name pm_ a5] kk a6) scope lpos, kpos⟩] pos) (tSortLam X.K T jp te) := by
  constructor
  intro pins s σ H Q I h
  refine wpAny_Call_Name_kw (ld_blt (u := .builtin "sorted") I hg hm (by decide +kernel) ?_)
  refine PyProof.Rows.callWith_kw ?_ (by rw [nr]; rfl) (by rw [nr]; rfl) (by rfl) (by rfl)
  rw [nr]
  show wpAny _ _ (spliced ((false, eval (.Call (.Name "range" p2) [e] [] pos2) X.env) :: backTo pos (starEach [] X.env))) _ _ _
  have clos : ∀ y ∈ scope.names, y.2 = .free → ∃ c, X.env.cells.lookup y.1 = some c := fun y hy e => by
    rw [hfr1 y hy e]
    exact I.ok.has py (.inl hcx)
  refine Calls.spliced_cons (thn (rg_new (Q := fun z H1 => Tabs T H1 ∧ ∃ (n : Nat) (pa : Addr) (ps : Nat → Int), z = .int n ∧ n ≤ 1000 ∧ σ[jp]? = some (some (.ref pa)) ∧ H1 pa = some (.tup (iv (fl n ps))) ∧
    ∀ HL l, ExtN H1 HL → Tabs T HL → HL l = none → Q (.ref l) (L2.upd HL l (.lst (natV (ordP n ps))))) hg2 hm2 he na I ?_) fun x s1 hx => Calls.spliced_nil ?_)
  · exact h
  obtain ⟨r, ob, n0, H1, rfl, rng, I1, tabs, n, pa, ps, en, hn, hσ, hpa, q⟩ := hx
  injection en with en
  subst en
  show wpAny _ _ (evalAll ((do let v ← eval (.Lambda params (.Tuple [.UnaryOp .USub (.Subscript (.Name py a1) (.Name pm_ a2) a3) a4, .Name pm_ a5] kk a6) scope lpos) X.env; standAt pos; pure v) :: (backToKw pos (keywordEach [] X.env)).map (·.2))) _ _ _
  refine wpAny_evalAll_cons (wpAny_bind (lam_make2 I1 TB hcode hT hu tabs hdef clos fun f c' pm ctv HL s2 I2 ex tabs2 hf hfn hff hco => wpAny_bind (wpAny_standAt (wpAny_pure (wpAny_evalAll_nil ?_)))))
  show wpAny _ _ (call (.builtin "sorted") [.ref r] [(Str.ofString "key", .ref f)]) _ _ _
  obtain ⟨t0, u0, v0, rg⟩ := rng s2.heap (I2.pin (r, ob) (List.mem_append_right _ List.mem_cons_self)).1
  -- the closure
  obtain ⟨m, hns, hl⟩ := I2.loc
  obtain ⟨w', rw', lk⟩ := hl jp py (.ref pa) hN hσ (.inr (.inl hcx))
  obtain rfl : w' = Value.ref pa := rw'
  have lk2 : ∃ cp, X.env.cells.lookup py = some cp ∧ s2.heap.IsCell cp (some (.ref pa)) := by
    rcases lk with ⟨z, _⟩ | ⟨_, cp, e1, e2⟩
    · have z : X.env.scope.names.lookup py = some .local := z
      rw [hcx] at z
      cases z
    · exact ⟨cp, e1, e2⟩
  obtain ⟨cp, ecp, icp⟩ := lk2
  have lcl : (cloFrom X.env.cells scope.names []).lookup py = some cp := by
    obtain ⟨c2, e2⟩ := mem_lookup (cloFrom_has (cells := X.env.cells) (acc := []) (PySem.mem_of_lookup hfree))
    rcases cloFrom_mem (PySem.mem_of_lookup e2) with z | ⟨_, z⟩
    · cases z
    · rw [ecp] at z
      rw [e2, z]
      rfl
  have hpaL : HL pa = some (.tup (iv (fl n ps))) := ex _ _ hpa (fun _ z => nomatch z)
  obtain ⟨its, rv, tup, _⟩ := I2.tuple (SqT.of hpaL)
  obtain ⟨oc, cvs, ct, hoc, hdc, hq⟩ := (I2.hok c' _ hco).1
  have hitl : its.length = n := by rw [← rv.length, iv_len]
  have du := hr.units
  refine sorted_key_range (n := n) (fun i => keyD (ps i) i) (I2.ok.hd hc) rg hn ?_ ?_ (fun i hi => ?_) (fun i x hi hx g tk kp => ?_) (fun out c g tk l kp hl0 hl1 each => ?_)
  · intro d hd d' hd'
    obtain ⟨i, _, rfl⟩ := List.mem_map.mp hd
    obtain ⟨j, _, rfl⟩ := List.mem_map.mp hd'
    rfl
  · refine .inl fun d hd => ?_
    obtain ⟨i, _, rfl⟩ := List.mem_map.mp hd
    exact ⟨_, _, rfl⟩
  · show X.A.units + 2 + 1 < cLine
    omega
  · obtain ⟨u, hu1, hu2⟩ := rv.get (iv_get (f := ps) hi)
    obtain ⟨tt, rfl⟩ := hu2
    refine key_turn (s := { s2 with heap := g, toks := tk }) (items := its) (cp := cp) (pa := pa) hr.depth (I2.nolimit.keeps kp) (kp _ _ hf) (kp _ _ hoc) hdc hq (fun v => hbind _ _ _ _ v) co gen kind hcell hpar hfree lcl (let ⟨o, ho, hd⟩ := icp; ⟨o, kp _ _ ho, hd⟩) (let ⟨o, ho, hd⟩ := tup; ⟨o, kp _ _ ho, hd⟩) hu1 (by omega) hx d1 d2 d3
  · have hLl : HL l = none := hok_none I2.hok hl0
    have vs := vals_nat each
    have lenO : (natV (ordP n ps)).length ≤ sizeLine := by
      unfold natV ordP
      rw [List.length_map, List.length_mergeSort, List.length_range]
      exact Nat.le_of_lt (small1000 hn)
    have I3 : L2.Inv X ((r, ob) :: pins) σ (L2.upd HL l (.lst (natV (ordP n ps)))) { s2 with heap := g, toks := tk } :=
      I2.un (un_at kp hl0 hLl) (hok_at I2.hok kp hLl ⟨lenO, out, c, vs, hl1⟩)
    refine ⟨.ref l, _, I3.pins_of fun p hp => I3.pin p ?_, rfl, q HL l ex tabs2 hLl⟩
    exact List.mem_append_right _ (List.mem_cons_of_mem _ hp)
end
end FdS

set_option autoImplicit false
set_option Elab.async false
set_option linter.all false
set_option maxRecDepth 100000
set_option maxHeartbeats 4000000
/-! check_characters -/
namespace Fd
open PySem PySem.Spec PyProof.Rows L2 RZ
abbrev sCc : Stmt := topS 13
theorem scCc : FnScope ["text", "most"] ["text", "most"] (defScope sCc) := ⟨rfl, rfl, rfl, by decide +kernel, rfl, by decide +kernel, by decide +kernel⟩
def lineD (C : Addr) (PT : List Addr) (i : Int) (why : Str) (H : Hp) (E : XK) : Prop := ∀ H' d, Tbs PT H H' → H' d = some (.xd (bsD (.int i) (.str why))) → E (.ref C) (some d) H'
def chOk (l : List Nat) (most : Int) : Bool := !decide (most < (l.length : Int)) && l.all mayB
def spCc (C : Addr) (PT : List Addr) : Sp := fun vs H Q E => ∃ (l : List Nat) (most : Int), vs = [.str (tx l), .int most] ∧ TbG PT H ∧ l.length ≤ 1000000 ∧
  (chOk l most = true → ∀ H', Tbs PT H H' → Q .non H') ∧ (chOk l most = false → lineD C PT 1 "text not allowed" H E)
section
variable {P : Program} {w : World} {K : PySem.W.Frag} {mg : Str → Option Value} {base : Heap}
theorem ok_cc {PT : List Addr} {f c PN fM C fI : Addr} {fdM fdI : FuncData} {kV doc pm ct oc : Value} {an od : Option Addr} {osl : Array (Option Value)}
    (lk : K.lookup f = some ⟨oc, od, .func (PySem.W.fnOf "check_characters" "check_characters" (defArgs sCc) (defBody sCc) (defScope sCc) .none kV doc pm an (.ref c) ct), osl⟩) (hcd : PySem.W.codeIn K (.ref c) "check_characters" = true) (TB : LamX.TabB base mg c PN) (hPN : PN ∈ PT)
    (FM : Fun K "may_stand" "may_stand" sMay fM fdM) (bM : Binds K fdM ["letter"] []) (gM : mg "may_stand" = some (.ref fM)) (T : BsT P w K mg base C fI fdI)
    (mLen : mg "len" = none) (mAll : mg "all" = none) (m_ord : mg "ord" = none) {tk : Tok} (mPS : mg "PERCENT_SIGN" = some (.int 37 tk)) :
    FnOk P w K mg base (L2.CX P w) 3 f (PySem.W.fnOf "check_characters" "check_characters" (defArgs sCc) (defBody sCc) (defScope sCc) .none kV doc pm an (.ref c) ct) ["text", "most"] (spCc C PT) := by
  refine fn_of lk hcd scCc (fun vs H Q E h => ?_) (fun A outer s H vs Q E hr h => ?_)
  · obtain ⟨l, most, rfl, _⟩ := h
    rfl
  · obtain ⟨l, most, rfl, hG, hl, q1, q2⟩ := h
    refine ⟨_, pss_one (ps_if (PW.pt (pw_or (pt_cmpR op_gt (pe_callB call_len_str (by rfl) mLen PySem.boot_len (pa_cons (pv 0) pa_nil)) (pv 1) (nomark _))
        (pw_or1 (pt_not (pt_val (pe_allSD hr (by rfl) mAll (by decide +kernel) ⟨TB.code, TB.bm, TB.gP⟩ rfl ⟨rfl, rfl, by decide +kernel, rfl, rfl, fun y hy e => absurd e ((by decide +kernel : ∀ z ∈ ([(Str.ofString ".0", NameKind.local), (Str.ofString "letter", NameKind.local), (Str.ofString "may_stand", NameKind.globalImplicit)] : List (Str × NameKind)), z.2 ≠ .free) y hy)⟩ (pv 0)
          (fun M => may_elt M m_ord mPS FM bM gM (by have := hr.dp; show (A.deeper _).depth + 1 + 1 < _; omega) rfl rfl rfl) (fun _ => rfl)))))))
        (pss_one (ps_raise rfl (takes_of rfl rfl rfl rfl) (pmk_oex T.O T.iC T.tI T.G hr T.b .nil pass0 rfl T.gC (pa_cons pe_int (pa_cons pe_str pa_nil))))) pss_nil), ?_⟩
    have big : 1000000 ≤ sizeLine := by decide
    have e0 : ((tx l).length : Int) = (l.length : Int) := by rw [tx_len]
    refine ⟨.str (tx l), rfl, tx l, rfl, by rw [tx_len]; omega, .int most, rfl, _, _, rfl, rfl, _, rfl, ite2 (fun h1 => ?_) (fun h1 => ?_)⟩
    · have h1 := of_decide_eq_true h1
      rw [e0] at h1
      have hf : chOk l most = false := by unfold chOk; rw [decide_eq_true h1]; rfl
      exact ite2 (fun _ => bs_made fun H' d s' e => q2 hf H' d (Tbs.same s') e) (fun z => absurd rfl z)
    · have h1 : ¬ most < (l.length : Int) := fun z => h1 (by rw [e0]; exact decide_eq_true z)
      have ec : chOk l most = l.all mayB := by unfold chOk; rw [decide_eq_false h1]; rfl
      refine ⟨.str (tx l), rfl, tx l, rfl, hG PN hPN, fun H2 t2 => ⟨_, rfl, ?_⟩⟩
      have t2 := Tbs.of hPN t2
      rw [tx_list]
      cases hb : l.all mayB with
      | true => exact ite2 (fun z => absurd z (by decide)) (fun _ => q1 (by rw [ec]; exact hb) H2 t2)
      | false => exact ite2 (fun _ => bs_made fun H' d s' e => q2 (by rw [ec]; exact hb) H' d (t2.trans (Tbs.same s')) e) (fun z => absurd rfl z)
end
end Fd

set_option autoImplicit true
set_option Elab.async false
set_option linter.all false
set_option maxRecDepth 100000
set_option maxHeartbeats 2000000
/-! enumerate(list, start=k) -/
namespace Fd
open PySem PySem.Spec PyProof.Rows L2 RZ
theorem callWith_typeK {M : Model} {A : Around} {E : Value → Shared → Prop} {s : Shared} {pos : Pos} {T : String} {first : List Value} {args : List (Bool × Sem Value)} {keywords : List (Option Str × Sem Value)} {Q : Value → Shared → Prop}
    (hplain : args.any (·.1) = false) (hkw : keywords.any (·.1.isNone) = false)
    (h : wpAny M A (evalArgs (.type T) true args keywords) (fun a s₁ => wpAny M A (call (.type T) (first ++ a.pos) a.kw) Q E s₁) E s) :
    wpAny M A (callWith pos (.type T) first args keywords) Q E s := by
  unfold callWith
  refine wpAny_bind (wpAny_holding (wpAny_mono h (fun a s₁ h₁ => wpAny_bind (wpAny_standAt ?_)) fun _ _ x => x))
  simp only [hplain, hkw, Bool.or_false]
  refine wpAny_bind (wpAny_pure ?_)
  exact wpAny_bind (wpAny_mono h₁ (fun r s₂ hr => wpAny_bind (wpAny_holding (wpAny_point (wpAny_pure hr)))) fun _ _ x => x)
/-- the list at a, each item in a new pair with its place, counted from k -/
def IteS (K : PySem.W.Frag) (a : Addr) (k : Int) : It :=
  ⟨fun i H => ∃ (xs : List V) (x : V), SqL K H a xs ∧ xs[i]? = some x,
   fun i H v H' => ∃ T x, v = .ref T ∧ H T = none ∧ H' = upd H T (.tup [.int (k + (i : Nat)), x]) ∧ ∀ xs, SqL K H a xs → xs[i]? = some x,
   fun i H => ∃ xs : List V, SqL K H a xs ∧ xs.length ≤ i⟩
theorem turn_enumS {P : Program} {w : World} {K : PySem.W.Frag} {elts : List Expr} {kk : Nat} {tpos : Pos} (k0 : Int) (a e it : Addr) (hea : a ≠ e) (hia : a ≠ it) :
    Turn P w K (.Tuple elts kk tpos) (IteS K a k0) [e, it] e (fun i h => (∃ old, IsEnum h e it (k0 + ((i : Nat) : Int)) old) ∧ h.IsListIter it a i ∧ e ≠ it) where
  mem := List.mem_cons_self
  obj := by
    intro i h st b hb
    obtain ⟨⟨old, he⟩, ⟨ob, ho, hc, hd⟩, _⟩ := st
    rcases List.mem_cons.mp hb with z | hb
    · rw [z]
      exact ⟨_, he, fun v q => nomatch q⟩
    · rcases List.mem_cons.mp hb with z | hb
      · rw [z]
        exact ⟨ob, ho, fun v q => by rw [hd] at q; cases q⟩
      · cases hb
  keep := fun i h h' st k => ⟨let ⟨old, he⟩ := st.1; ⟨old, k e (by simp) _ he⟩, st.2.1.at fun o q => k it (by simp) o q, st.2.2⟩
  item := by
    intro X hP hw hK hc i pins s σ H E I hf st hg
    subst hP hw hK
    obtain ⟨⟨old, he⟩, hit, hne⟩ := st
    obtain ⟨xs, x, hq, hx⟩ := hg
    obtain ⟨its, rv, p, hz⟩ := I.list hq
    obtain ⟨u, hu, ru⟩ := rv.get hx
    have hin : i < its.toArray.size := by
      have q := (List.getElem?_eq_some_iff.mp hu).1
      simpa using q
    have lE : e < s.heap.objs.size := Heap.lt_size he
    have lI : it < s.heap.objs.size := let ⟨_, q, _⟩ := hit; Heap.lt_size q
    refine wpAny_pyNext_enum_itemC (Draws.list (A := X.A.in1) (prog := X.prog) (w := X.w) (I.ok.hd hc) it a hia its.toArray) he ⟨hit, p.isList⟩ hin hne (by simp [hne, hea.symm]) fun y h' tk hy ho hst hT hsz hk => ?_
    have ey : y = u := by
      have q : its.toArray[i]? = some u := by simpa using hu
      exact Option.some.inj (hy.symm.trans q)
    subst ey
    refine ⟨_, rfl, wpAny_letOwnedTupleGo_enum (s := { s with heap := h', toks := tk + 1 }) ho fun h'' he' sb => ?_⟩
    have nT : s.heap.objs.size ≠ e := Nat.ne_of_gt lE
    have tup2 := (sb.2 _ nT).trans hT
    have new : ObjOk X.prog X.w (upd H s.heap.objs.size (.tup [.int (k0 + (i : Nat)), x])) h'' s.heap.objs.size (.tup [.int (k0 + (i : Nat)), x]) :=
      ⟨by show 2 ≤ sizeLine; decide, [.int (k0 + (i : Nat)) tk, y], .cons ⟨_, rfl⟩ (.cons ru .nil), ⟨_, tup2, rfl, _, rfl⟩⟩
    have I1 : Inv X pins σ (upd H s.heap.objs.size (.tup [.int (k0 + (i : Nat)), x])) { s with heap := h'', toks := tk + 1 } := by
      refine I.turnedNew (ch := [e, it]) (fun b ob hb q => ?_) hf (Nat.le_refl _) new
      have b1 : b ≠ e := fun z => hb (by rw [z]; exact List.mem_cons_self)
      have b2 : b ≠ it := fun z => hb (by rw [z]; exact List.mem_cons_of_mem _ List.mem_cons_self)
      exact (sb.2 b b1).trans (hk b ob b1 b2 q)
    refine ⟨.ref s.heap.objs.size, _, I1, rfl, ⟨_, x, rfl, I.hok.fresh (Nat.le_refl _), rfl, fun ys hy' => by rw [I.list_inj hy' hq]; exact hx⟩, ⟨⟨y, ?_⟩, hst.1.at fun o q => (sb.2 it hne.symm).trans q, hne⟩, fun b hb => ?_⟩
    · rw [show k0 + ((i + 1 : Nat) : Int) = k0 + (i : Int) + 1 by omega]
      exact he'
    · have lb : b < s.heap.objs.size := by
        rcases List.mem_cons.mp hb with z | hb
        · rw [z]; exact lE
        · rcases List.mem_cons.mp hb with z | hb
          · rw [z]; exact lI
          · cases hb
      rw [upd_ne (Nat.ne_of_lt lb)]
      exact (hf b hb).1
  done := by
    intro X hP hw hK hc i pins s σ H E I hf st hg
    subst hP hw hK
    obtain ⟨⟨old, he⟩, hit, hne⟩ := st
    obtain ⟨xs, hq, hx⟩ := hg
    obtain ⟨its, rv, p, hz⟩ := I.list hq
    obtain ⟨f0, f1, f2, f3, f4, f5⟩ := hf it (by simp)
    have hl := rv.length
    have hT : s.TypeIs (.ref e) "enumerate" := ⟨_, he, rfl⟩
    unfold pyNext
    refine wpAny_bind (wpAny_attempt (wpAny_callSpecial?_slot (name := Str.ofString "__next__") hT F.slot_enumerate_next (wpAny_call_entry F.slot_enumerate_next hT F.entry_enumerate_next ?_ (F.args_enumerate_next_1 _))))
    show wpAny _ _ (field (.ref e) 2 >>= _) _ _ _
    refine wpAny_bind (wpAny_field he rfl (x := .ref it) rfl ?_)
    refine wpAny_bind (wpAny_nextOf_list_end (I.ok.hd hc) hit p.isList (by simp; omega) fun h' ex eb hx' => ?_)
    obtain ⟨oo, ho, hcl⟩ := hx'
    refine wpAny_bind (wpAny_isInstance (T := "StopIteration") (b := true) ⟨oo, ho, hcl⟩ isSubtype_stop ?_)
    exact wpAny_pure ⟨rfl, I.turned (t' := s.toks) (fun b o hb q => eb b o hb q) f0 f1 f3 f4 f5⟩
  self := fun A i s Q E st h => let ⟨⟨_, he⟩, _⟩ := st; wpAny_pyIter_enum he h
def iEnumS (K : PySem.W.Frag) (ta tk : TA) : TI := fun σ H R => ta σ H fun vs H1 => ∃ a, vs = [.ref a] ∧ tk σ H1 fun ks H2 => ∃ k xs, ks = [.int k] ∧ -(2 ^ 63) ≤ k ∧ k < 2 ^ 63 ∧ SqL K H2 a xs ∧ R (IteS K a k) H2
theorem pi_enumS {X : Cx} {e : Expr} {kws : List Keyword} {ta tk : TA} {p pos tpos : Pos} {elts : List Expr} {kk : Nat} (hg : Gl X "enumerate") (hm : X.mg "enumerate" = none) (ha : PA X [e] ta) (hk : PK X kws tk)
    (he : backTo pos (starEach [e] X.env) = (false, eval e X.env) :: backTo pos (starEach [] X.env) := by rfl) (hpl : (backTo pos (starEach [e] X.env)).any (·.1) = false := by rfl)
    (hall : (backToKw pos (keywordEach kws X.env)).all (·.1.isSome) = true := by rfl) (hnone : (backToKw pos (keywordEach kws X.env)).any (·.1.isNone) = false := by rfl) (hks : (backToKw pos (keywordEach kws X.env)).filterMap (·.1) = [Str.ofString "start"] := by rfl) :
    PI X (.Tuple elts kk tpos) (.Call (.Name "enumerate" p) [e] kws pos) (iEnumS X.K ta tk) := by
  constructor
  intro pins s σ H R I h
  refine wpAny_Call_Name_kw (ld_blt I hg hm boot_enumerate ?_)
  refine callWith_typeK hpl hnone ?_
  rw [he]
  refine evalArgs_kwB hall ?_
  rw [← he]
  refine thn (ha.run pos pins s σ H _ I h) fun us s1 hv => ?_
  obtain ⟨vs, H1, I1, r1, a, rfl, q1⟩ := hv
  refine thn (hk.run pos pins s1 σ H1 _ I1 q1) fun ws s2 hw => ?_
  obtain ⟨zs, H2, I2, r2, k, xs, rfl, hk0, hk1, hq, q⟩ := hw
  obtain ⟨u, rfl, ru⟩ := vals1 r1
  obtain rfl : u = Value.ref a := ru
  obtain ⟨u2, rfl, ru2⟩ := vals1 r2
  obtain ⟨t2, rfl⟩ := ru2
  rw [hks]
  obtain ⟨its, rv, pl, hz⟩ := I2.list hq
  refine enum_begins_start (begins_list a its.toArray) pl.isList hk0 hk1 fun h' he' hit hsz hkp => wpAny_pyIter_enum he' ?_
  have la : a < s2.heap.objs.size := by obtain ⟨o, ho, _⟩ := pl.isList; exact Heap.lt_size ho
  have hit2 : h'.IsListIter s2.heap.objs.size a 0 := ⟨_, hit, rfl, rfl⟩
  refine ⟨s2.heap.objs.size + 1, [s2.heap.objs.size + 1, s2.heap.objs.size], _, _, H2, rfl, I2.kept (t' := s2.toks) hkp, turn_enumS k a (s2.heap.objs.size + 1) s2.heap.objs.size (Nat.ne_of_lt (Nat.lt_succ_of_lt la)) (Nat.ne_of_lt la), ⟨⟨.none, by rw [show k + ((0 : Nat) : Int) = k by omega]; exact he'⟩, hit2, Nat.succ_ne_self _⟩, fun b hb => ?_, q⟩
  have lb : s2.heap.objs.size ≤ b := by
    rcases List.mem_cons.mp hb with z | hb
    · rw [z]; exact Nat.le_succ _
    · rcases List.mem_cons.mp hb with z | hb
      · rw [z]; exact Nat.le_refl _
      · cases hb
  exact I2.fpOk lb (I2.hok.fresh lb)
theorem walk_enumS {K : PySem.W.Frag} {a : Addr} {xs : List V} {k : Int} : Walk (IteS K a k) xs.length (fun H => SqL K H a xs) (YPair (fun i => some (.int (k + (i : Nat)))) (fun i => xs[i]?)) := by
  refine ⟨fun i _ hi q => ⟨xs, xs[i], q, by simp [hi]⟩, fun _ q => ⟨xs, q, Nat.le_refl _⟩, fun i H v H' _ q y => ?_⟩
  obtain ⟨T, x, h1, h2, h3, h4⟩ := y
  exact ⟨T, .int (k + (i : Nat)), x, h1, h2, h3, rfl, h4 xs q⟩
end Fd

set_option autoImplicit false
set_option Elab.async false
set_option linter.all false
set_option maxRecDepth 100000
set_option maxHeartbeats 4000000
namespace Fd
open PySem PySem.Spec PyProof.Rows L2 RZ
abbrev sRo : Stmt := topS 12
theorem scRo : FnScope ["text", "most", "lines", "rows", "line", "row"] ["text", "most"] (defScope sRo) := ⟨rfl, rfl, rfl, by decide +kernel, rfl, by decide +kernel, by decide +kernel⟩
abbrev sRoN : List Str := ["text", "most", "lines", "rows", "line", "row"]
def tTru (K : PySem.W.Frag) (ta : TE) : TT := fun σ H Q => ta σ H fun x H' => ∃ k, TruV K x H' k ∧ Q k H'
/-- lists and tuples stay -/
structure LT (H H' : Hp) : Prop where
  l : ∀ b xs, H b = some (.lst xs) → H' b = some (.lst xs)
  t : ∀ b xs, H b = some (.tup xs) → H' b = some (.tup xs)
theorem LT.of {H H' : Hp} (s : Same H H') : LT H H' := ⟨fun b xs e => s b _ e, fun b xs e => s b _ e⟩
theorem LT.tb {TS : List Addr} {H H' : Hp} (g : TbG TS H) (s : Tbs TS H H') : LT H H' := ⟨fun b xs e => s.lst g e, fun b xs e => s.tup g e⟩
theorem LT.trans {H H1 H2 : Hp} (a : LT H H1) (b : LT H1 H2) : LT H H2 := ⟨fun c xs e => b.l c xs (a.l c xs e), fun c xs e => b.t c xs (a.t c xs e)⟩
abbrev Rr := Int × List (List Nat)
def wsV (ws : List (List Nat)) : List V := ws.map fun w => V.str (tx w)
def RrAt (D : Addr) (H : Hp) (r : Addr) (x : Rr) : Prop := ∃ a, a ≠ D ∧ H r = some (.tup [.int x.1, .ref a]) ∧ H a = some (.lst (wsV x.2))
def RrsAt (H : Hp) (D : Addr) (R : List Rr) : Prop := ∃ rs : List Addr, H D = some (.lst (rs.map V.ref)) ∧ rs.length = R.length ∧ ∀ (i : Nat) (x : Rr), R[i]? = some x → ∃ r, rs[i]? = some r ∧ RrAt D H r x
theorem RrsAt.lt {H H' : Hp} {D : Addr} {R : List Rr} (h : RrsAt H D R) (k : LT H H') : RrsAt H' D R := by
  obtain ⟨rs, h1, h2, h3⟩ := h
  refine ⟨rs, k.l _ _ h1, h2, fun i x e => ?_⟩
  obtain ⟨r, e1, a, na, e2, e3⟩ := h3 i x e
  exact ⟨r, e1, a, na, k.t _ _ e2, k.l _ _ e3⟩
theorem RrsAt.nil {H : Hp} {D : Addr} (h : H D = some (.lst [])) : RrsAt H D [] := ⟨[], h, rfl, fun i x e => nomatch e⟩
theorem RrsAt.snoc {H : Hp} {D r a : Addr} {R : List Rr} {x : Rr} {xs : List V} (h : RrsAt H D R) (hD : H D = some (.lst xs)) (na : a ≠ D) (hr : H r = some (.tup [.int x.1, .ref a])) (ha : H a = some (.lst (wsV x.2))) : RrsAt (L2.upd H D (.lst (xs ++ [.ref r]))) D (R ++ [x]) := by
  obtain ⟨rs, h1, h2, h3⟩ := h
  rw [h1] at hD
  cases hD
  have nr : r ≠ D := fun z => by rw [z, h1] at hr; cases hr
  refine ⟨rs ++ [r], by rw [upd_same, List.map_append]; rfl, by rw [List.length_append, List.length_append, h2]; rfl, fun i y e => ?_⟩
  by_cases c : i < R.length
  · rw [List.getElem?_append_left c] at e
    obtain ⟨q, e1, b, nb, e2, e3⟩ := h3 i y e
    have nq : q ≠ D := fun z => by rw [z, h1] at e2; cases e2
    exact ⟨q, by rw [List.getElem?_append_left (by omega)]; exact e1, b, nb, by rw [upd_ne nq]; exact e2, by rw [upd_ne nb]; exact e3⟩
  · rw [List.getElem?_append_right (by omega)] at e
    have c0 : i - R.length = 0 := by
      cases z : i - R.length with
      | zero => rfl
      | succ m => rw [z] at e; cases e
    rw [c0] at e
    cases e
    exact ⟨r, by rw [List.getElem?_append_right (by omega), show i - rs.length = 0 by omega]; rfl, a, na, by rw [upd_ne nr]; exact hr, by rw [upd_ne na]; exact ha⟩
def linesL (l : List Nat) : List (List Nat) := TL.spl [10] 0 [] l
def lineI (l : List Nat) (i : Nat) : List (List Nat) := lwL ((linesL l).getD i [])
def allR (l : List Nat) (n : Nat) : List Rr := (List.range n).map fun i : Nat => ((i : Int) + 1, lineI l i)
def rowsN (l : List Nat) (n : Nat) : List Rr := (allR l n).filter fun x => decide (x.2 ≠ [])
def rowsF (l : List Nat) : List Rr := rowsN l (linesL l).length
theorem split_tx (l : List Nat) : Txt.split (tx l) (tx [10]) = (linesL l).map tx := by
  refine TL.map_tl_inj ?_
  rw [TL.split_spl _ _ (by decide) (TL.kind_ok (by show (#[10] : Array Nat).all (· < 256) = true; decide +kernel)), List.map_map]
  show linesL l = _
  exact (List.map_id _).symm
theorem spl_le : ∀ (l acc : List Nat), (∀ p ∈ TL.spl [10] 0 acc l, p.length ≤ acc.length + l.length) ∧ (TL.spl [10] 0 acc l).length ≤ l.length + 1 := by
  intro l
  induction l with
  | nil => intro acc; rw [TL.spl_nil]; exact ⟨fun p hp => by rw [List.mem_singleton.mp hp]; exact Nat.le_add_right _ _, Nat.le_refl _⟩
  | cons c r ih =>
    intro acc
    by_cases h : TL.pre [10] (c :: r) = true
    · rw [TL.spl_hit h]
      have a := ih []
      refine ⟨fun p hp => ?_, ?_⟩
      · rcases List.mem_cons.mp hp with z | z
        · rw [z]; omega
        · have := a.1 p z
          rw [List.length_nil] at this
          rw [List.length_cons]
          omega
      · have := a.2
        rw [List.length_cons, List.length_cons]
        exact Nat.succ_le_succ this
    · rw [TL.spl_miss (Bool.eq_false_iff.mpr h)]
      have a := ih (acc ++ [c])
      refine ⟨fun p hp => ?_, ?_⟩
      · have := a.1 p hp
        rw [List.length_append, List.length_singleton] at this
        rw [List.length_cons]
        omega
      · have := a.2
        rw [List.length_cons]
        omega
theorem lines_le (l : List Nat) : (∀ p ∈ linesL l, p.length ≤ l.length) ∧ (linesL l).length ≤ l.length + 1 := by
  have h := spl_le l []
  exact ⟨fun p hp => by have := h.1 p hp; rw [List.length_nil] at this; omega, h.2⟩
theorem allR_succ (l : List Nat) (n : Nat) : allR l (n + 1) = allR l n ++ [((n : Int) + 1, lineI l n)] := by
  unfold allR
  rw [List.range_succ, List.map_append]
  rfl
theorem sgn_nl1 : Str.ofString "\n" = tx [10] := by decide +kernel
section
variable {P : Program} {w : World} {K : PySem.W.Frag} {mg : Str → Option Value} {base : Heap}
def spRo (C : Addr) (TS : List Addr) : Sp := fun vs H Q E => ∃ (l : List Nat) (most : Int), vs = [.str (tx l), .int most] ∧ TbG TS H ∧ l.length ≤ 500000 ∧
  (chOk l most = true → ∀ H' p R, Tbs TS H H' → H' p = some (.tup [.ref R, .int ((linesL l).length : Int)]) → RrsAt H' R (rowsF l) → H R = none → Q (.ref p) H') ∧ (chOk l most = false → lineD C TS 1 "text not allowed" H E)
theorem ok_ro {C : Addr} {TS : List Addr} {f fCc fWd : Addr} {fd fdCc fdWd : FuncData} (F : Fun K "rows_of" "rows_of" sRo f fd)
    (kCc : PySem.W.keepIn K (.ref fCc) = true) (GCc : FnOk P w K mg base (L2.CX P w) 3 fCc fdCc ["text", "most"] ((spCc C TS))) (bCc : Binds K fdCc ["text", "most"] []) (gCc : mg "check_characters" = some (.ref fCc))
    (FWd : Fun K "words_of" "words_of" sWd fWd fdWd) (GWd : FnOk P w K mg base CX0 1 fWd fdWd ["row"] spWd) (bWd : Binds K fdWd ["row"] []) (gWd : mg "words_of" = some (.ref fWd))
    (mE : mg "enumerate" = none) (mLen : mg "len" = none) : FnOk P w K mg base (L2.CX P w) 5 f fd ["text", "most"] (spRo C TS) := by
  refine F.okX scRo (fun vs H Q E h => ?_) (fun cdv A outer s H vs Q E hr h => ?_)
  · obtain ⟨l, most, rfl, _⟩ := h
    rfl
  · obtain ⟨l, most, rfl, hG, hl, q1, q2⟩ := h
    have hr3 : Room 3 _ := hr.mono (by decide)
    have hr1 : Room 1 _ := hr.mono (by decide)
    refine ⟨_, pss_cons (ps_expr (pe_call GCc hr3 (by rfl) gCc kCc bCc .nil (passes_call (takes_of rfl rfl rfl rfl) (fun _ _ _ _ h => h)) (pa_cons (pv 0) (pa_cons (pv 1) pa_nil))))
      (pss_cons (ps_set (i := 2) scRo.nd rfl (.inl rfl) (pe_split (pv 0) (pe_str)))
      (pss_cons (ps_setLc (i := 3) (own := [("line", 4), ("row", 5)]) (g := gTup K 2 (gCons (gName 4) (gCons (gName 5) gNil))) (tt := tYes) (te := tTup (tCons (tVar 4) (tCons (tCall spWd [] E0 (tCons (tVar 5) tNil)) tNil))) rfl scRo.nd rfl rfl (sw_true rfl rfl rfl rfl) (pi_enumS (by rfl) mE (pa_cons (pv 2) pa_nil) (pk_cons (pe_int) pk_nil))
            (blkOk_by (N := sRoN) (sc := defScope sRo) (by decide +kernel))
            (fun _ _ _ _ _ => pg_tup rfl (pgs_cons (pg_name (i := 4) scRo.nd rfl (.inl rfl)) (pgs_cons (pg_name (i := 5) scRo.nd rfl (.inl rfl)) pgs_nil))) (fun _ _ _ _ _ => pts_nil)
            (fun _ _ _ _ _ => pe_tup (pa_cons (pv 4) (pa_cons (pe_call GWd hr1 (by rfl) gWd FWd.kp bWd .nil pass0 (pa_cons (pv 5) pa_nil)) pa_nil))))
      (pss_one (ps_ret (pe_tup (pa_cons (pe_lc (own := [("row", 5)]) (g := gName 5) (tt := tTru K (tOp (rIxT K) (tVar 5) (tC (.int 1)))) (te := tVar 5) rfl scRo.nd (pi_list (pv 3))
            (blkOk_by (N := sRoN) (sc := defScope sRo) (by decide +kernel))
            (fun _ _ _ _ _ => pg_name (i := 5) scRo.nd rfl (.inl rfl)) (fun _ _ _ _ _ => pts_one (pt_truth (pe_ix (ixT (K := K) rfl) (pv 5) (pe_int) (fun _ _ => rfl)) (fun _ => rfl)))
            (fun _ _ _ _ _ => pv 5)) (pa_cons (pe_callB call_len_seq (by rfl) mLen PySem.boot_len (pa_cons (pv 2) pa_nil)) pa_nil))))))), ?_⟩
    have big : 2000000 ≤ sizeLine := by decide
    refine ⟨.str (tx l), rfl, .int most, rfl, l, most, rfl, hG, by omega, fun ok H1 t1 => ?_, fun no => q2 no⟩
    have q1 := q1 ok
    have hG1 := t1.g hG
    refine ⟨.str (tx l), rfl, ⟨_, rfl⟩, _, _, rfl, rfl, by decide +kernel, by rw [tx_len]; omega, fun Ln nLn => ?_⟩
    rw [sgn_nl1, split_tx]
    have sL := same_new (o := .lst (((linesL l).map tx).map V.str)) nLn
    obtain ⟨HL, hHL⟩ : ∃ HL, HL = L2.upd H1 Ln (.lst (((linesL l).map tx).map V.str)) := ⟨_, rfl⟩
    have hL0 : HL Ln = some (.lst (((linesL l).map tx).map V.str)) := by rw [hHL]; exact upd_same
    rw [← hHL] at sL ⊢
    refine st_go (σ' := [some (.str (tx l)), some (.int most), some (.ref Ln), none, none, none]) rfl ?_
    refine ⟨.ref Ln, rfl, Ln, rfl, 1, _, rfl, by decide, by decide, SqL.of hL0, fun D nD => ?_⟩
    refine lc_it walk_enumS (fun i H' => Same HL H' ∧ RrsAt H' D (allR l i)) ⟨same_new nD, RrsAt.nil upd_same⟩ (fun i H' _ h => SqL.of (h.1 _ _ hL0)) ?_ ?_
    · rintro i v H2 H3 hi ⟨s2, hD⟩ ⟨T, x, z, rfl, nT, rfl, hx, hz⟩
      dsimp only at hx hz
      cases hx
      rw [List.length_map, List.length_map] at hi
      rw [List.getElem?_map, List.getElem?_map, List.getElem?_eq_getElem hi] at hz
      cases hz
      obtain ⟨ln, hln⟩ : ∃ ln, ln = (linesL l)[i] := ⟨_, rfl⟩
      rw [← hln]
      have lln : ln.length ≤ l.length := by rw [hln]; exact (lines_le l).1 _ (List.getElem_mem hi)
      have eI : lwL ln = lineI l i := by unfold lineI; rw [List.getD_eq_getElem?_getD, List.getElem?_eq_getElem hi, ← hln]; rfl
      have sT := same_new (o := .tup [.int (1 + (i : Nat)), .str (tx ln)]) nT
      obtain ⟨H3, h3⟩ : ∃ H3, H3 = L2.upd H2 T (.tup [.int (1 + (i : Nat)), .str (tx ln)]) := ⟨_, rfl⟩
      have hT : H3 T = some (.tup [.int (1 + (i : Nat)), .str (tx ln)]) := by rw [h3]; exact upd_same
      rw [← h3] at sT ⊢
      refine ⟨T, _, rfl, SqT.of hT, rfl, _, _, rfl, _, _, rfl, rfl, ?_⟩
      dsimp only [wipe, List.map, List.set]
      refine ⟨rfl, ?_⟩
      dsimp only [tYes]
      rw [if_pos rfl]
      refine ⟨.int (1 + (i : Nat)), rfl, .str (tx ln), rfl, ln, rfl, by omega, fun H4 a s4 na ha => ?_⟩
      refine ⟨by show 2 ≤ sizeLine; decide, fun t nt => ?_⟩
      have st := same_new (o := .tup [.int (1 + (i : Nat)), .ref a]) nt
      have s24 := sT.trans s4
      obtain ⟨rs, g1, g2, g3⟩ := (hD.lt (LT.of (s24.trans st)))
      have lr : rs.length ≤ 500001 := by
        rw [g2]
        unfold allR
        rw [List.length_map, List.length_range]
        have := (lines_le l).2
        omega
      refine ⟨_, g1, Nat.lt_of_le_of_lt (show _ ≤ 500001 by rw [List.length_map]; exact lr) (by decide), same_upd' (s2.trans (s24.trans st)) nD, ?_⟩
      rw [allR_succ]
      obtain ⟨rs2, k1, _⟩ := hD
      have hDx := sT _ _ k1
      refine RrsAt.snoc (x := ((i : Int) + 1, lineI l i)) ⟨rs, g1, g2, g3⟩ g1 (a := a) (fun z => ?_) ?_ ?_
      · rw [z, hDx] at na
        cases na
      · rw [upd_same, Int.add_comm 1 (i : Int)]
      · rw [← eI]
        exact st _ _ ha
    · rintro H2 ⟨s2, hD⟩
      rw [List.length_map, List.length_map] at hD
      obtain ⟨n, hn⟩ : ∃ n, n = (linesL l).length := ⟨_, rfl⟩
      rw [← hn] at hD
      have ln1 : n ≤ 500001 := by have := (lines_le l).2; omega
      refine st_go (σ' := [some (.str (tx l)), some (.int most), some (.ref Ln), some (.ref D), none, none]) rfl ?_
      obtain ⟨rs, g1, g2, g3⟩ := id hD
      have lall : (allR l n).length = n := by unfold allR; rw [List.length_map, List.length_range]
      refine ⟨.ref D, rfl, D, rfl, ⟨_, SqL.of g1⟩, fun G nG => ?_⟩
      refine lc_it walk_list (fun i H' => Same H2 H' ∧ RrsAt H' G (((allR l n).take i).filter fun x => decide (x.2 ≠ []))) ⟨same_new nG, RrsAt.nil upd_same⟩ (fun i H' _ h => SqL.of (h.1 _ _ g1)) ?_ ?_
      · rintro i v H3 H4 hi ⟨s3, hG⟩ ⟨rfl, hx⟩
        rw [List.length_map, g2] at hi
        have e0 := List.getElem?_eq_getElem hi
        obtain ⟨r, e1, a, na, e2, e3⟩ := g3 i _ e0
        rw [List.getElem?_map, e1] at hx
        have hx : some (V.ref r) = some v := hx
        cases hx
        have hr := s3 _ _ e2
        have ha := s3 _ _ e3
        refine ⟨rfl, .ref r, rfl, r, _, 1, .ref a, rfl, rfl, SqT.of hr, rfl, _, .inl ⟨_, SqL.of ha, rfl⟩, ite2 (fun h1 => ?_) (fun h1 => ?_)⟩
        · obtain ⟨rs3, k1, k2, k3⟩ := id hG
          have lr : rs3.length ≤ 500001 := by
            rw [k2]
            refine Nat.le_trans (List.length_filter_le _ _) ?_
            rw [List.length_take]
            omega
          refine ⟨.ref r, rfl, _, k1, Nat.lt_of_le_of_lt (show _ ≤ 500001 by rw [List.length_map]; exact lr) (by decide), same_upd' s3 nG, ?_⟩
          have ne : (allR l n)[i].2 ≠ [] := fun z => by
            rw [z] at h1
            exact absurd h1 (by decide)
          rw [List.take_add_one, e0, Option.toList_some, List.filter_append, List.filter_cons_of_pos (by simpa using ne)]
          refine RrsAt.snoc hG k1 (a := a) (fun z => ?_) hr ha
          have := e3
          rw [z, nG] at this
          cases this
        · refine ⟨s3, ?_⟩
          have em : (allR l n)[i].2 = [] := by
            cases e : (allR l n)[i].2 with
            | nil => rfl
            | cons y ys => exact absurd (by rw [e]; rfl) h1
          rw [List.take_add_one, e0, Option.toList_some, List.filter_append, List.filter_cons_of_neg (by simpa using em), List.filter_nil, List.append_nil]
          exact hG
      · rintro H3 ⟨s3, hG⟩
        rw [List.length_map, g2, List.take_length] at hG
        have hL3 := (s2.trans s3) _ _ hL0
        refine ⟨.ref Ln, rfl, Ln, _, rfl, .inl (SqL.of hL3), by show 2 ≤ sizeLine; decide, fun T nT => ?_⟩
        have sT := same_new (o := .tup [.ref G, .int ((((linesL l).map tx).map V.str).length : Int)]) nT
        have sall : Same H1 _ := sL.trans (s2.trans (s3.trans sT))
        refine q1 _ T G (t1.trans (Tbs.same sall)) ?_ ?_ ?_
        · rw [upd_same, List.length_map, List.length_map]
        · unfold rowsF rowsN
          rw [← hn]
          exact hG.lt (LT.of sT)
        · cases e : H G with
          | none => rfl
          | some o =>
            by_cases c : G ∈ TS
            · obtain ⟨ps, a, _⟩ := hG1 G c
              have := (sL.trans s2) _ _ a
              rw [nG] at this
              cases this
            · have := (sL.trans s2) _ _ (t1.kp _ _ c e)
              rw [nG] at this
              cases this
end
end Fd

set_option autoImplicit true
set_option Elab.async false
set_option linter.all false
set_option maxRecDepth 100000
set_option maxHeartbeats 4000000
/-! lo <= x <= hi as the test of a sign -/
namespace Fd
open PySem PySem.Spec PyProof.Rows L2
theorem elt_range {prog : Program} {w : World} {scope : Scope} {x lo hi : Str} {j1 j2 : Nat} {p1 p2 p3 p4 : Pos} (hk : scope.kind = .function) (hl : scope.names.lookup x = some .local) (hd : (x == ("__debug__" : Str)) = false := by decide) :
    GxR.EltP prog w scope x (.Compare (.Constant (.str lo) j1 p1) [.LtE, .LtE] [.Name x p2, .Constant (.str hi) j2 p3] p4) (fun c => (!decide ([c] < lo.cps.toList)) && !decide (hi.cps.toList < [c])) := by
  intro cenv A' E' c t s₂ m₂ hs hn hm
  refine Compare_chain (Calls.Constant_str (chain_link ?_))
  refine wpAny_Name (wpAny_loadName_local (by rw [hs]; exact hk) (show cenv.scope.names.lookup x = some .local by rw [hs]; exact hl) hn hm ?_) hd
  refine PySem.P.le_str (wpAny_truthy_bool ?_)
  show (if (!decide ([c] < lo.cps.toList)) = true then _ else _)
  cases z : (!decide ([c] < lo.cps.toList)) with
  | false => exact ite_ff ⟨by simp [z], GxR.keeps_tok _ _⟩
  | true =>
    refine ite_tt (chain_last (Calls.Constant_str (PySem.P.le_str ⟨?_, GxR.keeps_tok _ _⟩)))
    simp [z]
end Fd

set_option autoImplicit false
set_option Elab.async false
set_option linter.all false
set_option maxRecDepth 100000
set_option maxHeartbeats 4000000
/-! is_number -/
namespace Fd
open PySem PySem.Spec PyProof.Rows L2 RZ
abbrev sNu : Stmt := topS 8
theorem scNu : FnScope ["word"] ["word"] (defScope sNu) := ⟨rfl, rfl, rfl, by decide +kernel, rfl, by decide +kernel, by decide +kernel⟩
theorem ix_tx0 {l : List Nat} {c : Nat} {H : Hp} {Q : VK} (h : l[0]? = some c) (hl : l.length ≤ 1000000) (q : Q (.str (tx [c])) H) : rItS (.str (tx l)) (.int 0) H Q := ix_tx (i := 0) h hl q
def digB (c : Nat) : Bool := (!decide ([c] < ("0" : Str).cps.toList)) && !decide (("9" : Str).cps.toList < [c])
theorem digB_iff (c : Nat) : digB c = true ↔ 48 ≤ c ∧ c ≤ 57 := by
  have e0 : ("0" : Str).cps.toList = [48] := by decide +kernel
  have e9 : ("9" : Str).cps.toList = [57] := by decide +kernel
  unfold digB
  rw [e0, e9, Bool.and_eq_true, Bool.not_eq_true', Bool.not_eq_true', decide_eq_false_iff_not, decide_eq_false_iff_not, lt_one, lt_one]
  omega
def numB (w : List Nat) : Bool := decide (1 ≤ w.length ∧ w.length ≤ 6) && (w.all digB && (decide (w = [48]) || decide (w[0]? ≠ some 48)))
theorem sgn_zero : Str.ofString "0" = tx [48] := by decide +kernel
def spNu (TS : List Addr) : Sp := fun vs H Q _ => ∃ w : List Nat, vs = [.str (tx w)] ∧ TbG TS H ∧ w.length ≤ 1000000 ∧ ∀ H', Tbs TS H H' → Q (.bl (numB w)) H'
section
variable {P : Program} {w : World} {K : PySem.W.Frag} {mg : Str → Option Value} {base : Heap}
theorem ok_nu {TS : List Addr} {f c PN : Addr} {kV doc pm ct oc : Value} {an od : Option Addr} {osl : Array (Option Value)}
    (lk : K.lookup f = some ⟨oc, od, .func (PySem.W.fnOf "is_number" "is_number" (defArgs sNu) (defBody sNu) (defScope sNu) .none kV doc pm an (.ref c) ct), osl⟩) (hcd : PySem.W.codeIn K (.ref c) "is_number" = true) (TB : LamX.TabB base mg c PN) (hPN : PN ∈ TS)
    (mLen : mg "len" = none) (mAll : mg "all" = none) {tkL : Tok} (mD : mg "MOST_DIGITS" = some (.int 6 tkL)) :
    FnOk P w K mg base CX0 1 f (PySem.W.fnOf "is_number" "is_number" (defArgs sNu) (defBody sNu) (defScope sNu) .none kV doc pm an (.ref c) ct) ["word"] (spNu TS) := by
  refine fn_of lk hcd scNu (fun vs H Q E h => ?_) (fun A outer s H vs Q E hr h => ?_)
  · obtain ⟨l, rfl, _⟩ := h
    rfl
  · obtain ⟨l, rfl, hG, hz, q⟩ := h
    suffices hs : ∃ t, PSs (cxOf CX0 P w K mg base ["word"] "is_number" (defScope sNu) f (.ref c) A outer s H E).nox (defBody sNu) t ∧ t { nx := fun _ H' => Q .non H', rt := Q } (L2.start ["word"] [.str (tx l)]) H by
      obtain ⟨t, h1, h2⟩ := hs
      exact ⟨t, h1.nox, h2⟩
    refine ⟨_, pss_cons (ps_if (PW.pt (pw_or (pt_not (pt_chain op_le op_le pe_int (pe_callB call_len_str (by rfl) mLen PySem.boot_len (pa_cons (pv 0) pa_nil)) (pe_glob (v := .int 6) rfl mD ⟨_, rfl⟩)))
          (pw_or1 (pt_not (pt_val (GxR.pe_allS hr (by rfl) mAll (by decide +kernel) ⟨TB.code, TB.bm, TB.gP⟩ rfl ⟨rfl, rfl, by decide +kernel, rfl, rfl, fun y hy e => absurd e ((by decide +kernel : ∀ z ∈ ([(Str.ofString ".0", NameKind.local), (Str.ofString "digit", NameKind.local)] : List (Str × NameKind)), z.2 ≠ .free) y hy)⟩ (pv 0) (elt_range rfl rfl) (fun _ => rfl)))))))
        (pss_one (ps_ret pe_bl)) pss_nil)
      (pss_one (ps_ret (pe_or (pe_cmpR op_eq (pv 0) pe_str (nomark _)) (pe_one (pe_cmpR op_ne (pe_itS (pv 0) pe_int (fun _ _ => rfl)) pe_str (nomark _)))))), ?_⟩
    have big : 2000000 ≤ sizeLine := by decide
    have e0 : ((tx l).length : Int) = (l.length : Int) := by rw [tx_len]
    refine ⟨.str (tx l), rfl, tx l, rfl, by rw [tx_len]; omega, 1, ((tx l).length : Int), rfl, rfl, ?_⟩
    rw [e0]
    refine ⟨_, rfl, ite2 (fun h1 => ?_) (fun h1 => ?_)⟩
    · have h1 := of_decide_eq_true h1
      refine ⟨(l.length : Int), 6, rfl, rfl, _, rfl, ?_⟩
      by_cases h2 : (l.length : Int) ≤ 6
      · rw [decide_eq_true h2]
        refine ite2 (fun z => absurd z (by decide)) fun _ => ?_
        refine ⟨_, rfl, tx l, rfl, hG PN hPN, fun H2 e2 => ?_⟩
        have t2 := Tbs.of hPN e2
        have qq := q H2 t2
        unfold numB at qq
        rw [decide_eq_true (show 1 ≤ l.length ∧ l.length ≤ 6 by omega), Bool.true_and] at qq
        rw [tx_list]
        refine ⟨_, rfl, ?_⟩
        show (if (!l.all digB) = true then _ else _)
        cases hb : l.all digB with
        | false =>
          rw [hb, Bool.false_and] at qq
          exact ite2 (fun _ => qq) (fun z => absurd rfl z)
        | true =>
          rw [hb, Bool.true_and] at qq
          refine ite2 (fun z => absurd z (by decide)) (fun _ => ?_)
          refine ⟨.str (tx l), rfl, rfl, ?_⟩
          have ez : decide (V.str (tx l) = V.str (Str.ofString "0")) = decide (l = [48]) := by
            rw [sgn_zero]
            by_cases c : l = [48]
            · rw [c, decide_eq_true rfl, decide_eq_true rfl]
            · rw [decide_eq_false c, decide_eq_false fun z => c (tx_inj (V.str.inj z))]
          rw [ez]
          refine ⟨_, rfl, ?_⟩
          by_cases c : l = [48]
          · rw [decide_eq_true c] at qq ⊢
            exact ite2 (fun _ => qq) (fun z => absurd rfl z)
          · rw [decide_eq_false c, Bool.false_or] at qq
            rw [decide_eq_false c]
            refine ite2 (fun z => absurd z (by decide)) (fun _ => ?_)
            obtain ⟨c0, hc0⟩ : ∃ c0, l[0]? = some c0 := ⟨l[0]'(by omega), List.getElem?_eq_getElem (by omega)⟩
            refine ⟨.str (tx l), rfl, ?_⟩
            dsimp only [tC]
            refine ix_tx0 hc0 (by omega) ?_
            refine ⟨rfl, ?_⟩
            have en : (!decide (V.str (tx [c0]) = V.str (Str.ofString "0"))) = decide (l[0]? ≠ some 48) := by
              rw [sgn_zero, hc0]
              by_cases d : c0 = 48
              · rw [d, decide_eq_true rfl, decide_eq_false fun z => z rfl]; rfl
              · rw [decide_eq_false fun z => d (List.singleton_inj.mp (tx_inj (V.str.inj z))), decide_eq_true (show some c0 ≠ some 48 from fun z => d (Option.some.inj z))]; rfl
            rw [en]
            exact qq
      · rw [decide_eq_false h2]
        refine ite2 (fun _ => ?_) fun z => absurd rfl z
        have qq := q H (Tbs.refl TS H)
        unfold numB at qq
        rw [decide_eq_false fun z => h2 (by omega), Bool.false_and] at qq
        exact qq
    · have h1 : ¬ 1 ≤ (l.length : Int) := fun z => h1 (decide_eq_true z)
      refine ⟨_, rfl, ite2 (fun _ => ?_) fun z => absurd rfl z⟩
      have qq := q H (Tbs.refl TS H)
      unfold numB at qq
      rw [decide_eq_false fun z => h1 (by omega), Bool.false_and] at qq
      exact qq
end
end Fd

set_option autoImplicit false
set_option Elab.async false
set_option linter.all false
set_option maxRecDepth 100000
set_option maxHeartbeats 4000000
namespace Fd
open PySem PySem.Spec PyProof.Rows L2 RZ
abbrev sKb : Stmt := topS 19
theorem scKb : FnScope ["kinds"] ["kinds"] (defScope sKb) := ⟨rfl, rfl, rfl, by decide +kernel, rfl, by decide +kernel, by decide +kernel⟩
abbrev sKbN : List Str := ["kinds"]
/-- a line's kind: 0 sure, 1 unsure, 2 prices, 3 faults -/
def kindS : Nat → Str
  | 0 => "sure"
  | 1 => "unsure"
  | 2 => "prices"
  | _ => "faults"
def kb (ks : List Nat) : List Nat := match ks with
  | [] => [0, 1]
  | 0 :: _ => [2]
  | [_] => [3]
  | _ => []
theorem kind_eq0 : ∀ k : Nat, k < 4 → decide (V.str (kindS k) = V.str (Str.ofString "sure")) = decide (k = 0) := by
  intro k hk
  match k, hk with
  | 0, _ => decide +kernel
  | 1, _ => decide +kernel
  | 2, _ => decide +kernel
  | 3, _ => decide +kernel
section
variable {P : Program} {w : World} {K : PySem.W.Frag} {mg : Str → Option Value} {base : Heap}
def spKb : Sp := fun vs H Q _ => ∃ (a : Addr) (ks : List Nat), vs = [.ref a] ∧ H a = some (.lst (ks.map fun k => V.str (kindS k))) ∧ (∀ k ∈ ks, k < 4) ∧ ks.length ≤ 1000000 ∧ ∀ H' p, Same H H' → H' p = some (.tup ((kb ks).map fun k => V.str (kindS k))) → Q (.ref p) H'
theorem ok_kb {f : Addr} {fd : FuncData} (F : Fun K "kinds_behind" "kinds_behind" sKb f fd)
    (mLen : mg "len" = none) : FnOk P w K mg base CX0 1 f fd ["kinds"] spKb := by
  refine F.ok scKb (fun vs H Q E h => ?_) (fun cdv A outer s H vs Q E hr h => ?_)
  · obtain ⟨a, ks, rfl, _⟩ := h
    rfl
  · obtain ⟨a, ks, rfl, ha, k4, lk, q⟩ := h
    refine ⟨_, pss_cons (ps_if (pt_not (pt_truth (pv 0) (fun _ => rfl)))
        (pss_one (ps_ret (pe_tup (pa_cons (pe_str) (pa_cons (pe_str) pa_nil))))) pss_nil)
      (pss_cons (ps_if (pt_cmpR op_eq (pe_ix ix_list (pv 0) (pe_int) (fun _ _ => rfl)) (pe_str) (nomark _))
        (pss_one (ps_ret (pe_tup (pa_cons (pe_str) pa_nil)))) pss_nil)
      (pss_one (ps_ret (pe_ifExp (pt_cmpR op_eq (pe_callB call_len_seq (by rfl) mLen PySem.boot_len (pa_cons (pv 0) pa_nil)) (pe_int) (nomark _)) (pe_tup (pa_cons (pe_str) pa_nil)) (pe_tup pa_nil))))), ?_⟩
    refine ⟨.ref a, rfl, _, .inl ⟨_, SqL.of ha, rfl⟩, ?_⟩
    cases ks with
    | nil =>
      refine ite2 (fun _ => ?_) (fun z => absurd rfl z)
      exact ⟨by show 2 ≤ sizeLine; decide, fun p np => q _ p (same_new np) upd_same⟩
    | cons k ks =>
      refine ite2 (fun z => absurd z (show ¬ ((!!false) = true) by decide)) (fun _ => ?_)
      have at0 : atI ((k :: ks).map fun k => V.str (kindS k)) ((0 : Nat) : Int) = some (.str (kindS k)) := atI_nat rfl
      refine ⟨.ref a, rfl, a, _, 0, .str (kindS k), rfl, rfl, SqL.of ha, at0, rfl, ?_⟩
      rw [kind_eq0 k (k4 k (by simp))]
      refine ⟨_, rfl, ite2 (fun h1 => ?_) (fun h1 => ?_)⟩
      · have h1 := of_decide_eq_true h1
        subst h1
        exact ⟨by show 1 ≤ sizeLine; decide, fun p np => q _ p (same_new np) upd_same⟩
      · have h1 : k ≠ 0 := fun z => h1 (decide_eq_true z)
        refine ⟨.ref a, rfl, a, _, rfl, .inl (SqL.of ha), rfl, _, rfl, ite2 (fun h2 => ?_) (fun h2 => ?_)⟩
        · have h2 := V.int.inj (of_decide_eq_true h2)
          have ek : ks = [] := by
            rw [List.length_map, List.length_cons] at h2
            exact List.eq_nil_of_length_eq_zero (by omega)
          subst ek
          have e : kb [k] = [3] := by
            cases k with
            | zero => exact absurd rfl h1
            | succ k => rfl
          rw [e] at q
          exact ⟨by show 1 ≤ sizeLine; decide, fun p np => q _ p (same_new np) upd_same⟩
        · have e : kb (k :: ks) = [] := by
            cases k with
            | zero => exact absurd rfl h1
            | succ k =>
              cases ks with
              | nil => exact absurd rfl h2
              | cons y ys => rfl
          rw [e] at q
          exact ⟨by show 0 ≤ sizeLine; decide, fun p np => q _ p (same_new np) upd_same⟩
end
end Fd

set_option autoImplicit false
set_option Elab.async false
set_option linter.all false
set_option maxRecDepth 100000
set_option maxHeartbeats 4000000
namespace Fd
open PySem PySem.Spec PyProof.Rows L2 RZ
abbrev sRn : Stmt := topS 20
theorem scRn : FnScope ["line", "words", "many", "counts", "numbers", "number"] ["line", "words", "many"] (defScope sRn) := ⟨rfl, rfl, rfl, by decide +kernel, rfl, by decide +kernel, by decide +kernel⟩
abbrev sRnN : List Str := ["line", "words", "many", "counts", "numbers", "number"]
def rIntS : List V → Hp → VK → Prop := fun xs H Q => ∃ a n, xs = [.str a] ∧ PySem.intText? a = some n ∧ a.length ≤ 640 ∧ Q (.int n) H
def valN (w : List Nat) : Int := ((NumText.digitsVal w : Nat) : Int)
theorem numB_int {w : List Nat} (h : numB w = true) : PySem.intText? (tx w) = some (valN w) ∧ (tx w).length ≤ 640 := by
  unfold numB at h
  rw [Bool.and_eq_true, Bool.and_eq_true, decide_eq_true_eq] at h
  obtain ⟨⟨h1, h2⟩, h3, _⟩ := h
  refine ⟨?_, by rw [tx_len]; omega⟩
  refine intText_digits (x := tx w) (fun c hc => ?_) (fun z => ?_) (by rw [tx_len]; omega)
  · exact (digB_iff c).mp (List.all_eq_true.mp h3 c hc)
  · have z : w = [] := z
    rw [z] at h1
    exact absurd h1 (by decide)
def cntK (k : Nat) (many : Int) : Int := match k with
  | 0 => 0
  | 1 => 2
  | _ => many
section
variable {P : Program} {w : World} {K : PySem.W.Frag} {mg : Str → Option Value} {base : Heap}
def spRn (C : Addr) (TS : List Addr) : Sp := fun vs H Q E => ∃ (line many : Int) (a : Addr) (k : Nat) (ws : List (List Nat)), vs = [.int line, .ref a, .int many] ∧ TbG TS H ∧ k < 4 ∧ H a = some (.lst (.str (kindS k) :: wsV ws)) ∧ ws.length ≤ 500001 ∧ (∀ w ∈ ws, w.length ≤ 1000000) ∧
  ((ws.length : Int) ≠ cntK k many → lineD C TS line "wrong number of words" H E) ∧ ((ws.length : Int) = cntK k many → ws.all numB = false → lineD C TS line "not a number" H E) ∧
  ((ws.length : Int) = cntK k many → ws.all numB = true → ∀ H' p, Tbs TS H H' → H' p = some (.tup (iv (ws.map valN))) → Q (.ref p) H')
theorem ok_rn {C fI : Addr} {TS : List Addr} {fdI : FuncData} {f fNu : Addr} {fd fdNu : FuncData} (F : Fun K "read_numbers" "read_numbers" sRn f fd)
    (kNu : PySem.W.keepIn K (.ref fNu) = true) (GNu : FnOk P w K mg base CX0 1 fNu fdNu ["word"] ((spNu TS))) (bNu : Binds K fdNu ["word"] []) (gNu : mg "is_number" = some (.ref fNu))
    (mLen : mg "len" = none) (mA : mg "all" = none) (mI : mg "int" = none) (mT : mg "tuple" = none) (T : BsT P w K mg base C fI fdI) : FnOk P w K mg base (L2.CX P w) 3 f fd ["line", "words", "many"] (spRn C TS) := by
  refine F.okX scRn (fun vs H Q E h => ?_) (fun cdv A outer s H vs Q E hr h => ?_)
  · obtain ⟨line, many, a, k, ws, rfl, _⟩ := h
    rfl
  · obtain ⟨line, many, a, k, ws, rfl, hG, k4, ha, lws, lw, q1, q2, q3⟩ := h
    have hrB : Room 2 _ := hr.mono (by decide)
    have hr1 : Room 1 _ := hr.mono (by decide)
    refine ⟨_, pss_cons (ps_set (i := 3) scRn.nd rfl (.inl rfl) (pe_disp (pps_cons (pe_str) (pe_int) (pps_cons (pe_str) (pe_int) (pps_cons (pe_str) (pv 2) (pps_cons (pe_str) (pv 2) pps_nil)))) rfl rfl (by simp) (by decide)))
      (pss_cons (ps_set (i := 4) scRn.nd rfl (.inl rfl) (pe_slice sl_list (pv 1) (po_some (pe_int)) po_none))
      (pss_cons (ps_if (pt_cmpR op_ne (pe_callB call_len_seq (by rfl) mLen PySem.boot_len (pa_cons (pv 4) pa_nil)) (pe_dget (hu_of hr) (pv 3) (pe_ix ix_list (pv 1) (pe_int) (fun _ _ => rfl)) (fun _ _ => rfl)) (nomark _))
        (pss_one (ps_raise rfl (takes_of rfl rfl rfl rfl) (pmk_oex T.O T.iC T.tI T.G hrB T.b .nil pass0 rfl T.gC (pa_cons (pv 0) (pa_cons (pe_str) pa_nil))))) pss_nil)
      (pss_cons (ps_if (pt_not (pt_val (pe_callB (cr_all rfl) (by rfl) mA (by decide +kernel) (pa_cons (pe_lc (own := [("number", 5)]) (g := gName 5) (tt := tYes) (te := tCall ((spNu TS)) [] E0 (tCons (tVar 5) tNil)) rfl scRn.nd (pi_list (pv 4))
            (blkOk_by (N := sRnN) (sc := defScope sRn) (by decide +kernel))
            (fun _ _ _ _ _ => pg_name (i := 5) scRn.nd rfl (.inl rfl)) (fun _ _ _ _ _ => pts_nil)
            (fun _ _ _ _ _ => pe_call GNu hr1 (by rfl) gNu kNu bNu .nil pass0 (pa_cons (pv 5) pa_nil))) pa_nil))))
        (pss_one (ps_raise rfl (takes_of rfl rfl rfl rfl) (pmk_oex T.O T.iC T.tI T.G hrB T.b .nil pass0 rfl T.gC (pa_cons (pv 0) (pa_cons (pe_str) pa_nil))))) pss_nil)
      (pss_one (ps_ret (pe_tupleOf (by rfl) mT (pe_lc (own := [("number", 5)]) (g := gName 5) (tt := tYes) (te := tCB rIntS (tCons (tVar 5) tNil)) rfl scRn.nd (pi_list (pv 4))
            (blkOk_by (N := sRnN) (sc := defScope sRn) (by decide +kernel))
            (fun _ _ _ _ _ => pg_name (i := 5) scRn.nd rfl (.inl rfl)) (fun _ _ _ _ _ => pts_nil)
            (fun _ _ _ _ _ => pe_callTy call_int_str (by rfl) mI (by decide +kernel) (pa_cons (pv 5) pa_nil))))))))), ?_⟩
    have big : 2000000 ≤ sizeLine := by decide
    -- the counts
    refine fun d nd => ⟨.int many, rfl, .int many, rfl, upd_same, [(.inr (Str.ofString "sure"), .int 0), (.inr (Str.ofString "unsure"), .int 2), (.inr (Str.ofString "prices"), .int many), (.inr (Str.ofString "faults"), .int many)], rfl, by show 4 ≤ 15; decide, ?_⟩
    obtain ⟨cD, hcD⟩ : ∃ cD, cD = mergeK [] [((.inr (Str.ofString "sure") : Key), V.int 0), (.inr (Str.ofString "unsure"), .int 2), (.inr (Str.ofString "prices"), .int many), (.inr (Str.ofString "faults"), .int many)] := ⟨_, rfl⟩
    have hv : valV cD (.inr (kindS k)) = some (.int (cntK k many)) := by
      rw [hcD]
      match k, k4 with
      | 0, _ => rfl
      | 1, _ => rfl
      | 2, _ => rfl
      | 3, _ => rfl
    rw [← hcD]
    obtain ⟨H1, hH1⟩ : ∃ H1, H1 = L2.upd (L2.upd H d (.dK [])) d (.dK cD) := ⟨_, rfl⟩
    have hd : H1 d = some (.dK cD) := by rw [hH1]; exact upd_same
    have s1 : Same H H1 := fun b o e => by
      have n : b ≠ d := fun z => by rw [z, nd] at e; cases e
      rw [hH1, upd_ne n, upd_ne n]
      exact e
    rw [← hH1]
    refine st_go (σ' := [some (.int line), some (.ref a), some (.int many), some (.ref d), none, none]) rfl ?_
    -- the numbers
    have hcut : cutV (V.str (kindS k) :: wsV ws) (some 1) none = wsV ws := by
      unfold cutV
      have e1 : HT.sIx (V.str (kindS k) :: wsV ws).length 0 (some 1) = 1 := (HT.sIx_nat _ 0 1).trans (by rw [List.length_cons]; omega)
      rw [HT.sIx_none, e1, List.drop_one, List.tail_cons, List.length_cons, Nat.add_sub_cancel, List.take_of_length_le (Nat.le_refl _)]
    refine ⟨.ref a, rfl, 1, rfl, a, _, rfl, SqL.of (s1 _ _ ha), fun N nN => ?_⟩
    rw [hcut]
    have sN := same_new (o := .lst (wsV ws)) nN
    obtain ⟨H2, hH2⟩ : ∃ H2, H2 = L2.upd H1 N (.lst (wsV ws)) := ⟨_, rfl⟩
    have hN : H2 N = some (.lst (wsV ws)) := by rw [hH2]; exact upd_same
    rw [← hH2] at sN ⊢
    have s2 := s1.trans sN
    have hG2 : TbG TS H2 := (Tbs.same s2).g hG
    refine st_go (σ' := [some (.int line), some (.ref a), some (.int many), some (.ref d), some (.ref N), none]) rfl ?_
    have lwv : (wsV ws).length = ws.length := by unfold wsV; rw [List.length_map]
    have at0 : atI (V.str (kindS k) :: wsV ws) ((0 : Nat) : Int) = some (.str (kindS k)) := atI_nat rfl
    refine ⟨.ref N, rfl, N, _, rfl, .inl (SqL.of hN), .ref d, rfl, .ref a, rfl, a, _, 0, .str (kindS k), rfl, rfl, SqL.of (s2 _ _ ha), at0, d, .int (cntK k many), rfl, .inl ⟨cD, .inr (kindS k), .inl (sN _ _ hd), rfl, hv.symm⟩, rfl, _, rfl, ?_⟩
    rw [lwv]
    by_cases hc : (ws.length : Int) = cntK k many
    · rw [hc, decide_eq_true rfl]
      refine ite2 (fun z => absurd z (by decide)) (fun _ => ?_)
      refine ⟨.ref N, rfl, N, rfl, ⟨_, SqL.of hN⟩, fun B nB => ?_⟩
      have hNi : N ∉ TS := hG2.ne hN fun ps z => nomatch z
      have nBT : B ∉ TS := fun h => by obtain ⟨ps, e, _⟩ := hG2 B h; rw [nB] at e; cases e
      refine lc_it walk_list (fun i H' => Tbs TS H2 H' ∧ H' B = some (.lst (((ws.take i).map numB).map V.bl))) ⟨(Tbs.refl TS H2).updN hG2 nB, upd_same⟩ (fun i H' _ h => SqL.of (h.1.kp _ _ hNi hN)) ?_ ?_
      · rintro i x H3 H4 hi ⟨t3, hB⟩ ⟨rfl, hx⟩
        rw [lwv] at hi
        unfold wsV at hx
        rw [List.getElem?_map, List.getElem?_eq_getElem hi] at hx
        cases hx
        refine ⟨rfl, ?_⟩
        dsimp only [tYes]
        rw [if_pos rfl]
        refine ⟨.str (tx ws[i]), rfl, ws[i], rfl, t3.g hG2, lw _ (List.getElem_mem hi), fun H5 t5 => ⟨_, t5.kp _ _ nBT hB, Nat.lt_of_le_of_lt (show _ ≤ 500001 by rw [List.length_map, List.length_map, List.length_take]; omega) (by decide), (t3.trans t5).updN hG2 nB, ?_⟩⟩
        rw [upd_same, List.take_add_one, List.getElem?_eq_getElem hi, List.map_append, List.map_append]
        rfl
      rintro H3 ⟨t3, hB⟩
      rw [lwv, List.take_length] at hB
      refine ⟨B, _, rfl, SqL.of hB, _, rfl, ?_⟩
      have ea : (ws.map numB).all id = ws.all numB := by rw [List.all_map]; rfl
      rw [ea]
      have t03 := (Tbs.same (PT := TS) s2).trans t3
      cases hall : ws.all numB with
      | false =>
        refine ite2 (fun _ => ?_) (fun z => absurd rfl z)
        exact ⟨.int line, rfl, bs_made fun H' d' s' e => q2 hc hall H' d' (t03.trans (Tbs.same s')) e⟩
      | true =>
        refine ite2 (fun z => absurd z (by decide)) (fun _ => ?_)
        have hN3 := t3.kp _ _ hNi hN
        refine ⟨.ref N, rfl, N, rfl, ⟨_, SqL.of hN3⟩, fun G nG => ?_⟩
        refine lc_it walk_list (fun i H' => Same H3 H' ∧ H' G = some (.lst (iv ((ws.take i).map valN)))) ⟨same_new nG, upd_same⟩ (fun i H' _ h => SqL.of (h.1 _ _ hN3)) ?_ ?_
        · rintro i x H4 H5 hi ⟨s4, hG4⟩ ⟨rfl, hx⟩
          rw [lwv] at hi
          unfold wsV at hx
          rw [List.getElem?_map, List.getElem?_eq_getElem hi] at hx
          cases hx
          refine ⟨rfl, ?_⟩
          dsimp only [tYes]
          rw [if_pos rfl]
          obtain ⟨v1, v2⟩ := numB_int (List.all_eq_true.mp hall _ (List.getElem_mem hi))
          refine ⟨.str (tx ws[i]), rfl, tx ws[i], valN ws[i], rfl, v1, v2, _, hG4, Nat.lt_of_le_of_lt (show _ ≤ 500001 by unfold iv; rw [List.length_map, List.length_map, List.length_take]; omega) (by decide), same_upd' s4 nG, ?_⟩
          rw [upd_same, List.take_add_one, List.getElem?_eq_getElem hi, List.map_append]
          unfold iv
          rw [List.map_append]
          rfl
        rintro H4 ⟨s4, hG4⟩
        rw [lwv, List.take_length] at hG4
        exact .inl ⟨G, _, rfl, SqL.of hG4, fun p np => q3 hc hall _ p (t03.trans (Tbs.same (s4.trans (same_new np)))) upd_same⟩
    · rw [decide_eq_false fun z => hc (V.int.inj z)]
      refine ite2 (fun _ => ?_) (fun z => absurd rfl z)
      exact ⟨.int line, rfl, bs_made fun H' d' s' e => q1 hc H' d' (Tbs.same (s2.trans s')) e⟩
end
end Fd

set_option autoImplicit false
set_option Elab.async false
set_option linter.all false
set_option maxRecDepth 100000
set_option maxHeartbeats 4000000
namespace Fd
open PySem PySem.Spec PyProof.Rows L2 RZ
abbrev sPp : Stmt := topS 18
theorem scPp : FnScope ["text", "many", "rows", "last", "kinds", "told", "line", "words"] ["text", "many"] (defScope sPp) := ⟨rfl, rfl, rfl, by decide +kernel, rfl, by decide +kernel, by decide +kernel⟩
abbrev sPpN : List Str := ["text", "many", "rows", "last", "kinds", "told", "line", "words"]
def kindT : Nat → List Nat
  | 0 => [115, 117, 114, 101]
  | 1 => [117, 110, 115, 117, 114, 101]
  | 2 => [112, 114, 105, 99, 101, 115]
  | _ => [102, 97, 117, 108, 116, 115]
theorem sgn_faults : Str.ofString "faults" = tx [102, 97, 117, 108, 116, 115] := by decide +kernel
theorem kindS_tx : ∀ k : Nat, kindS k = tx (kindT k)
  | 0 => by decide +kernel
  | 1 => by decide +kernel
  | 2 => by decide +kernel
  | _ + 3 => sgn_faults
theorem kb_lt (ks : List Nat) : ∀ k ∈ kb ks, k < 4 := by
  intro k hk
  unfold kb at hk
  split at hk
  · simp at hk; omega
  · simp at hk; omega
  · simp at hk; omega
  · cases hk
/-- the rows read, from what has been read -/
def parseR (many : Int) : List Rr → List Nat → List (List Int) → Except (Int × Str) (List Nat × List (List Int))
  | [], ks, ts => .ok (ks, ts)
  | (_, []) :: _, ks, ts => .ok (ks, ts)
  | (ln, w :: ws) :: r, ks, ts => match (kb ks).find? (fun k => decide (kindT k = w)) with
    | none => .error (ln, "unknown line")
    | some k => if (ws.length : Int) = cntK k many then (if ws.all numB = true then parseR many r (ks ++ [k]) (ts ++ [ws.map valN]) else .error (ln, "not a number")) else .error (ln, "wrong number of words")
inductive Pap
  | sure (R : List (List Int))
  | uns (a b : List Int)
def endR (last : Int) : List Nat × List (List Int) → Except (Int × Str) Pap
  | ([], _) => .error (last, "paper expected")
  | (0 :: _, ts) => .ok (.sure (ts.drop 1))
  | ([_], _) => .error (last, "faults expected")
  | (_, ts) => .ok (.uns (ts.getD 0 []) (ts.getD 1 []))
def parseF (l : List Nat) (many : Int) : Except (Int × Str) Pap :=
  if chOk l 10000 = true then (match parseR many (rowsF l) [] [] with
    | .error e => .error e
    | .ok x => endR ((linesL l).length : Int) x) else .error (1, "text not allowed")
def TdAt (H : Hp) (D : Addr) (R : List (List Int)) : Prop := ∃ rs : List Addr, H D = some (.lst (rs.map V.ref)) ∧ rs.length = R.length ∧ ∀ (i : Nat) (x : List Int), R[i]? = some x → ∃ r, rs[i]? = some r ∧ H r = some (.tup (iv x))
theorem TdAt.lt {H H' : Hp} {D : Addr} {R : List (List Int)} (h : TdAt H D R) (k : LT H H') : TdAt H' D R := by
  obtain ⟨rs, h1, h2, h3⟩ := h
  refine ⟨rs, k.l _ _ h1, h2, fun i x e => ?_⟩
  obtain ⟨r, e1, e2⟩ := h3 i x e
  exact ⟨r, e1, k.t _ _ e2⟩
theorem TdAt.nil {H : Hp} {D : Addr} (h : H D = some (.lst [])) : TdAt H D [] := ⟨[], h, rfl, fun i x e => nomatch e⟩
theorem TdAt.other {H : Hp} {D N : Addr} {R : List (List Int)} {o : HO} (h : TdAt H D R) (n : N ≠ D) (nt : ∀ xs, H N ≠ some (.tup xs)) : TdAt (L2.upd H N o) D R := by
  obtain ⟨rs, h1, h2, h3⟩ := h
  refine ⟨rs, by rw [upd_ne n.symm]; exact h1, h2, fun i x e => ?_⟩
  obtain ⟨r, e1, e2⟩ := h3 i x e
  exact ⟨r, e1, by rw [upd_ne fun z => nt _ (by rw [← z]; exact e2)]; exact e2⟩
theorem TdAt.snoc {H : Hp} {D r : Addr} {R : List (List Int)} {x : List Int} {xs : List V} (h : TdAt H D R) (hD : H D = some (.lst xs)) (hr : H r = some (.tup (iv x))) : TdAt (L2.upd H D (.lst (xs ++ [.ref r]))) D (R ++ [x]) := by
  obtain ⟨rs, h1, h2, h3⟩ := h
  rw [h1] at hD
  cases hD
  have nr : r ≠ D := fun z => by rw [z, h1] at hr; cases hr
  refine ⟨rs ++ [r], by rw [upd_same, List.map_append]; rfl, by rw [List.length_append, List.length_append, h2]; rfl, fun i y e => ?_⟩
  by_cases c : i < R.length
  · rw [List.getElem?_append_left c] at e
    obtain ⟨q, e1, e2⟩ := h3 i y e
    have nq : q ≠ D := fun z => by rw [z, h1] at e2; cases e2
    exact ⟨q, by rw [List.getElem?_append_left (by omega)]; exact e1, by rw [upd_ne nq]; exact e2⟩
  · rw [List.getElem?_append_right (by omega)] at e
    have c0 : i - R.length = 0 := by
      cases z : i - R.length with
      | zero => rfl
      | succ m => rw [z] at e; cases e
    rw [c0] at e
    cases e
    exact ⟨r, by rw [List.getElem?_append_right (by omega), show i - rs.length = 0 by omega]; rfl, by rw [upd_ne nr]; exact hr⟩
/-- the paper at p -/
def PaAt (H : Hp) (p : Addr) : Pap → Prop
  | .sure R => ∃ a, H p = some (.tup [.str "sure", .ref a]) ∧ ∃ rs : List Addr, H a = some (.tup (rs.map V.ref)) ∧ rs.length = R.length ∧ ∀ (i : Nat) (x : List Int), R[i]? = some x → ∃ r, rs[i]? = some r ∧ H r = some (.tup (iv x))
  | .uns x y => ∃ r, H p = some (.tup ([V.str "unsure"] ++ iv x ++ [.ref r])) ∧ H r = some (.tup (iv y))
theorem fold_le (n : Nat) : ∀ (l : List Nat) (st : List (List Nat) × List Nat), (∀ w ∈ st.1, w.length ≤ n) → st.2.length + l.length ≤ n → ∀ w ∈ TL.wfin (l.foldl TL.wstep st), w.length ≤ n := by
  intro l
  induction l with
  | nil =>
    intro st h1 h2 w hw
    unfold TL.wfin at hw
    rw [List.foldl_nil] at hw
    split at hw
    · exact h1 w hw
    · rcases List.mem_append.mp hw with z | z
      · exact h1 w z
      · rw [List.mem_singleton.mp z]; rw [List.length_nil] at h2; omega
  | cons c l ih =>
    intro st h1 h2 w hw
    rw [List.foldl_cons] at hw
    rw [List.length_cons] at h2
    refine ih (TL.wstep st c) ?_ ?_ w hw
    · intro x hx
      unfold TL.wstep at hx
      split at hx
      · split at hx
        · exact h1 x hx
        · rcases List.mem_append.mp hx with z | z
          · exact h1 x z
          · rw [List.mem_singleton.mp z]; omega
      · exact h1 x hx
    · unfold TL.wstep
      split
      · split
        · omega
        · show 0 + l.length ≤ n; omega
      · show (st.2 ++ [c]).length + l.length ≤ n
        rw [List.length_append, List.length_singleton]; omega
theorem word_le (l : List Nat) : ∀ w ∈ lwL l, w.length ≤ l.length := fun w hw =>
  fold_le l.length l ([], []) (fun _ h => (nomatch h)) (by show 0 + l.length ≤ _; omega) w ((List.takeWhile_sublist _).subset hw)
theorem lw_count (l : List Nat) : (lwL l).length ≤ l.length + 1 := by
  have a : (lwL l).length ≤ (wsL l).length := (List.takeWhile_sublist _).length_le
  have := words_le (tx l)
  rw [words_tx, List.length_map, tx_len] at this
  omega
theorem row_le (l : List Nat) : ∀ x ∈ rowsF l, x.2.length ≤ l.length + 1 ∧ ∀ w ∈ x.2, w.length ≤ l.length := fun x hx => by
  obtain ⟨i, hi, rfl⟩ := List.mem_map.mp (List.mem_filter.mp hx).1
  have hi := List.mem_range.mp hi
  have e : lineI l i = lwL (linesL l)[i] := by unfold lineI; rw [List.getD_eq_getElem?_getD, List.getElem?_eq_getElem hi]; rfl
  have h := (lines_le l).1 _ (List.getElem_mem hi)
  show (lineI l i).length ≤ _ ∧ ∀ w ∈ lineI l i, _
  rw [e]
  exact ⟨by have := lw_count (linesL l)[i]; omega, fun w hw => by have := word_le _ w hw; omega⟩
theorem cutV1 (xs : List V) : cutV xs (some 1) none = xs.drop 1 := by
  unfold cutV
  have e1 : HT.sIx xs.length 0 (some 1) = min 1 xs.length := HT.sIx_nat _ 0 1
  rw [HT.sIx_none, e1]
  cases xs with
  | nil => rfl
  | cons x l =>
    rw [show min 1 (x :: l).length = 1 by rw [List.length_cons]; omega, List.take_of_length_le (by rw [List.length_drop]; omega)]
theorem rows_ne {l : List Nat} : ∀ x ∈ rowsF l, x.2 ≠ [] := fun x hx => of_decide_eq_true (List.mem_filter.mp hx).2
theorem in_kb {w : List Nat} : ∀ L : List Nat, inV (.str (tx w)) (L.map fun k => V.str (kindS k)) = (L.find? (fun k => decide (kindT k = w))).isSome := by
  intro L
  induction L with
  | nil => rfl
  | cons k L ih =>
    have e : eqV (V.str (kindS k)) (V.str (tx w)) = decide (kindT k = w) := by
      rw [kindS_tx]
      show (tx (kindT k) == tx w) = _
      rw [Bool.eq_iff_iff, beq_iff_eq, decide_eq_true_eq]
      exact ⟨tx_inj, congrArg tx⟩
    show (eqV (V.str (kindS k)) (V.str (tx w)) || inV (.str (tx w)) (L.map fun k => V.str (kindS k))) = _
    rw [e, ih, List.find?_cons]
    cases decide (kindT k = w) <;> rfl
section
variable {P : Program} {w : World} {K : PySem.W.Frag} {mg : Str → Option Value} {base : Heap}
def spPp (C : Addr) (TS : List Addr) : Sp := fun vs H Q E => ∃ (l : List Nat) (many : Int), vs = [.str (tx l), .int many] ∧ TbG TS H ∧ l.length ≤ 500000 ∧
  match parseF l many with
  | .error (i, why) => lineD C TS i why H E
  | .ok pa => ∀ H' p, Tbs TS H H' → PaAt H' p pa → Q (.ref p) H'
theorem ok_pp {C fI : Addr} {TS : List Addr} {fdI : FuncData} {f fRo fKb fRn : Addr} {fd fdRo fdKb fdRn : FuncData} (F : Fun K "parse_paper" "parse_paper" sPp f fd)
    (FRo : Fun K "rows_of" "rows_of" sRo fRo fdRo) (GRo : FnOk P w K mg base (L2.CX P w) 5 fRo fdRo ["text", "most"] ((spRo C TS))) (bRo : Binds K fdRo ["text", "most"] []) (gRo : mg "rows_of" = some (.ref fRo))
    (FKb : Fun K "kinds_behind" "kinds_behind" sKb fKb fdKb) (GKb : FnOk P w K mg base CX0 1 fKb fdKb ["kinds"] spKb) (bKb : Binds K fdKb ["kinds"] []) (gKb : mg "kinds_behind" = some (.ref fKb))
    (FRn : Fun K "read_numbers" "read_numbers" sRn fRn fdRn) (GRn : FnOk P w K mg base (L2.CX P w) 3 fRn fdRn ["line", "words", "many"] ((spRn C TS))) (bRn : Binds K fdRn ["line", "words", "many"] []) (gRn : mg "read_numbers" = some (.ref fRn))
    (mT : mg "tuple" = none) (mLen : mg "len" = none) {tkC : Tok} (mMC : mg "MOST_CHARACTERS" = some (.int 10000 tkC)) (T : BsT P w K mg base C fI fdI) : FnOk P w K mg base (L2.CX P w) 6 f fd ["text", "many"] (spPp C TS) := by
  refine F.okX scPp (fun vs H Q E h => ?_) (fun cdv A outer s H vs Q E hr h => ?_)
  · obtain ⟨l, many, rfl, _⟩ := h
    rfl
  · obtain ⟨l, many, rfl, hG, hl, q⟩ := h
    have hrB : Room 2 _ := hr.mono (by decide)
    have hr4 : Room 4 _ := hr.mono (by decide)
    have hr3 : Room 3 _ := hr.mono (by decide)
    have hr1 : Room 1 _ := hr.mono (by decide)
    refine ⟨_, pss_cons (ps_asg (pe_call GRo hr (by rfl) gRo FRo.kp bRo .nil (passes_call (takes_of rfl rfl rfl rfl) (fun _ _ _ _ h => h)) (pa_cons (pv 0) (pa_cons (pe_glob (v := .int 10000) rfl mMC ⟨_, rfl⟩) pa_nil))) (pg_tup rfl (pgs_cons (pg_name (i := 2) scPp.nd rfl (.inl rfl)) (pgs_cons (pg_name (i := 3) scPp.nd rfl (.inl rfl)) pgs_nil))))
      (pss_cons (ps_par (i := 4) (j := 5) rfl scPp.nd rfl rfl (by decide) rfl rfl (pa_cons (pe_lst pa_nil) (pa_cons (pe_lst pa_nil) pa_nil)) rfl)
      (pss_cons (ps_for (passes_of rfl) rfl (pi_list (pv 2)) (pg_tup rfl (pgs_cons (pg_name (i := 6) scPp.nd rfl (.inl rfl)) (pgs_cons (pg_name (i := 7) scPp.nd rfl (.inl rfl)) pgs_nil)))
        (pss_cons (ps_if (pt_cmpR op_notIn_seq (pe_ix ix_list (pv 7) (pe_int) (fun _ _ => rfl)) (pe_call GKb hr1 (by rfl) gKb FKb.kp bKb .nil pass0 (pa_cons (pv 4) pa_nil)) rfl)
          (pss_one (ps_raise rfl (takes_of rfl rfl rfl rfl) (pmk_oex T.O T.iC T.tI T.G hrB T.b .nil pass0 rfl T.gC (pa_cons (pv 6) (pa_cons (pe_str) pa_nil))))) pss_nil)
        (pss_cons (ps_expr (pe_bm PySem.F.plainAttrs_list PySem.F.slot_list_append PySem.F.type_list_append mt_append (pv 4) (pa_cons (pe_ix ix_list (pv 7) (pe_int) (fun _ _ => rfl)) pa_nil)))
        (pss_one (ps_expr (pe_bm PySem.F.plainAttrs_list PySem.F.slot_list_append PySem.F.type_list_append mt_append (pv 5) (pa_cons (pe_call GRn hr3 (by rfl) gRn FRn.kp bRn .nil (passes_call (takes_of rfl rfl rfl rfl) (fun _ _ _ _ h => h)) (pa_cons (pv 6) (pa_cons (pv 7) (pa_cons (pv 1) pa_nil)))) pa_nil)))))))
      (pss_cons (ps_if (pt_not (pt_truth (pv 4) (fun _ => rfl)))
        (pss_one (ps_raise rfl (takes_of rfl rfl rfl rfl) (pmk_oex T.O T.iC T.tI T.G hrB T.b .nil pass0 rfl T.gC (pa_cons (pv 3) (pa_cons (pe_str) pa_nil))))) pss_nil)
      (pss_cons (ps_if (pt_cmpR op_eq (pe_ix ix_list (pv 4) (pe_int) (fun _ _ => rfl)) (pe_str) (nomark _))
        (pss_one (ps_ret (pe_tup (pa_cons (pe_str) (pa_cons (pe_tupleOf (by rfl) mT (pe_slice sl_list (pv 5) (po_some (pe_int)) po_none)) pa_nil))))) pss_nil)
      (pss_cons (ps_if (pt_cmpR op_eq (pe_callB call_len_seq (by rfl) mLen PySem.boot_len (pa_cons (pv 4) pa_nil)) (pe_int) (nomark _))
        (pss_one (ps_raise rfl (takes_of rfl rfl rfl rfl) (pmk_oex T.O T.iC T.tI T.G hrB T.b .nil pass0 rfl T.gC (pa_cons (pv 3) (pa_cons (pe_str) pa_nil))))) pss_nil)
      (pss_one (ps_ret (pe_op op_catA (pe_op op_catA (pe_tup (pa_cons (pe_str) pa_nil)) (pe_ix ix_list (pv 5) (pe_int) (fun _ _ => rfl))) (pe_tup (pa_cons (pe_ix ix_list (pv 5) (pe_int) (fun _ _ => rfl)) pa_nil)))))))))), ?_⟩
    have big : 2000000 ≤ sizeLine := by decide
    refine ⟨.str (tx l), rfl, l, 10000, rfl, hG, hl, fun ok H1 p1 R t1 hp1 hR nR => ?_, fun no => ?_⟩
    rotate_left
    · have e : parseF l many = .error (1, "text not allowed") := by unfold parseF; rw [if_neg (by rw [no]; decide)]
      rw [e] at q
      exact q
    obtain ⟨rows, hrows⟩ : ∃ rows, rows = rowsF l := ⟨_, rfl⟩
    have rne : ∀ x ∈ rows, x.2 ≠ [] := by rw [hrows]; exact rows_ne
    have hp : parseF l many = match parseR many rows [] [] with
        | .error e => .error e
        | .ok x => endR ((linesL l).length : Int) x := by unfold parseF; rw [if_pos ok, hrows]
    rw [← hrows] at hR
    obtain ⟨last, hlast⟩ : ∃ last : Int, last = ((linesL l).length : Int) := ⟨_, rfl⟩
    rw [← hlast] at hp1 hp
    have hG1 := t1.g hG
    refine ⟨p1, _, rfl, SqT.of hp1, rfl, _, _, rfl, _, _, rfl, rfl, ?_⟩
    dsimp only [List.set]
    refine ⟨by show 0 ≤ sizeLine; decide, fun Kd nK => ⟨by show 0 ≤ sizeLine; decide, fun Td nT => ⟨.ref Kd, .ref Td, rfl, ?_⟩⟩⟩
    dsimp only [List.set]
    have nKT : Td ≠ Kd := fun z => by rw [z, upd_same] at nT; cases nT
    have nT1 : H1 Td = none := by rw [upd_ne nKT] at nT; exact nT
    have nKS : Kd ∉ TS := fun h => by obtain ⟨ps, e, _⟩ := hG1 Kd h; rw [nK] at e; cases e
    have nTS : Td ∉ TS := fun h => by obtain ⟨ps, e, _⟩ := hG1 Td h; rw [nT1] at e; cases e
    obtain ⟨H2, hH2⟩ : ∃ H2, H2 = L2.upd (L2.upd H1 Kd (.lst [])) Td (.lst []) := ⟨_, rfl⟩
    have hK2 : H2 Kd = some (.lst []) := by rw [hH2, upd_ne nKT.symm]; exact upd_same
    have hT2 : H2 Td = some (.lst []) := by rw [hH2]; exact upd_same
    have t2 : Tbs TS H1 H2 := by rw [hH2]; exact ((Tbs.refl TS H1).updN hG1 nK).updN hG1 nT1
    rw [← hH2]
    obtain ⟨rs, g1, g2, g3⟩ := id hR
    have lrs : rows.length ≤ 500001 := by
      rw [hrows]
      unfold rowsF rowsN
      refine Nat.le_trans (List.length_filter_le _ _) ?_
      unfold allR
      rw [List.length_map, List.length_range]
      have := (lines_le l).2
      omega
    refine ⟨.ref R, rfl, R, rfl, ⟨_, SqL.of (t2.lst hG1 g1)⟩, ?_⟩
    refine for_it walk_list (fun i σ H' => ∃ ks ts y6 y7, σ = [some (.str (tx l)), some (.int many), some (.ref R), some (.int last), some (.ref Kd), some (.ref Td), y6, y7] ∧ Tbs TS H1 H' ∧ H' Kd = some (.lst (ks.map fun k => V.str (kindS k))) ∧ TdAt H' Td ts ∧ (∀ k ∈ ks, k < 4) ∧ ks.length ≤ i ∧ ts.length = ks.length ∧ (∀ x ∈ ts, x.length ≤ 500001) ∧ parseR many rows [] [] = parseR many (rows.drop i) ks ts)
      ⟨[], [], none, none, rfl, t2, hK2, TdAt.nil hT2, fun k h => (nomatch h), Nat.le_refl 0, rfl, fun x h => (nomatch h), rfl⟩ (fun i σ H' _ h => by obtain ⟨_, _, _, _, _, h, _⟩ := h; exact SqL.of (h.lst hG1 g1)) ?_ ?_
    · rintro i x σ H3 H4 hi ⟨ks, ts, y6, y7, rfl, t3, hK, hT, k4, lk, lt, lts, hpr⟩ ⟨rfl, hx⟩
      rw [List.length_map, g2] at hi
      obtain ⟨r, e1, a, na, e2, e3⟩ := g3 i _ (List.getElem?_eq_getElem hi)
      rw [List.getElem?_map, e1] at hx
      have hx : some (V.ref r) = some x := hx
      cases hx
      have hG3 := t3.g hG1
      have hr3 := t3.tup hG1 e2
      have ha3 := t3.lst hG1 e3
      obtain ⟨ln, w, ws, hrow⟩ : ∃ ln w ws, rows[i] = (ln, w :: ws) := by
        have := rne _ (List.getElem_mem hi)
        cases e : rows[i] with
        | mk ln wl =>
          rw [e] at this
          cases wl with
          | nil => exact absurd rfl this
          | cons w ws => exact ⟨ln, w, ws, rfl⟩
      rw [hrow] at hr3 ha3
      have hstep : parseR many (rows.drop i) ks ts = match (kb ks).find? (fun k => decide (kindT k = w)) with
          | none => .error (ln, "unknown line")
          | some k => if (ws.length : Int) = cntK k many then (if ws.all numB = true then parseR many (rows.drop (i + 1)) (ks ++ [k]) (ts ++ [ws.map valN]) else .error (ln, "not a number")) else .error (ln, "wrong number of words") := by
        rw [List.drop_eq_getElem_cons hi, hrow]
        rfl
      rw [hstep] at hpr
      refine ⟨r, _, rfl, SqT.of hr3, rfl, _, _, rfl, _, _, rfl, rfl, ?_⟩
      dsimp only [List.set]
      have at0 : atI (wsV (w :: ws)) ((0 : Nat) : Int) = some (.str (tx w)) := atI_nat rfl
      refine ⟨.ref a, rfl, a, _, 0, .str (tx w), rfl, rfl, SqL.of ha3, at0, .ref Kd, rfl, Kd, ks, rfl, hK, k4, by omega, fun H5 pk s5 hpk => ?_⟩
      refine ⟨pk, _, rfl, .inr (SqT.of hpk), rfl, ?_, _, rfl, ?_⟩
      · rw [List.all_map]
        exact List.all_eq_true.mpr fun _ _ => rfl
      rw [if_pos rfl, in_kb]
      cases hf : (kb ks).find? (fun k => decide (kindT k = w)) with
      | none =>
        rw [hf] at hpr
        rw [hp, hpr] at q
        refine ite2 (fun _ => ?_) (fun z => absurd rfl z)
        exact ⟨.int ln, rfl, bs_made fun H' d' s' e => q H' d' (t1.trans (t3.trans (Tbs.same (s5.trans s')))) e⟩
      | some k =>
        rw [hf] at hpr
        refine ite2 (fun z => absurd z (show ¬ ((!true) = true) by decide)) (fun _ => ?_)
        have hkm := List.mem_of_find?_eq_some hf
        have k4' := kb_lt ks k hkm
        have ew : kindT k = w := of_decide_eq_true (List.find?_some (p := fun k => decide (kindT k = w)) hf)
        have eS : tx w = kindS k := by rw [kindS_tx, ew]
        have rl := row_le l rows[i] (by rw [← hrows]; exact List.getElem_mem hi)
        rw [hrow] at rl
        have naK : a ≠ Kd := fun z => by rw [z, nK] at e3; cases e3
        have naT : a ≠ Td := fun z => by rw [z, nT1] at e3; cases e3
        have hK5 := s5 _ _ hK
        have ha5 := s5 _ _ ha3
        -- its kind
        refine ⟨.ref Kd, rfl, .inl ⟨rfl, _, SqL.of hK5⟩, .ref a, rfl, a, _, 0, .str (tx w), rfl, rfl, SqL.of ha5, at0, Kd, _, _, rfl, rfl, hK5, Nat.lt_of_le_of_lt (show _ ≤ 500001 by rw [List.length_map]; omega) (by decide), ?_⟩
        obtain ⟨H6, hH6⟩ : ∃ H6, H6 = L2.upd H5 Kd (.lst (ks.map (fun k => V.str (kindS k)) ++ [.str (tx w)])) := ⟨_, rfl⟩
        rw [← hH6]
        have hK6 : H6 Kd = some (.lst ((ks ++ [k]).map fun k => V.str (kindS k))) := by
          rw [hH6, upd_same, List.map_append, eS]
          rfl
        have t6 : Tbs TS H1 H6 := by rw [hH6]; exact (t3.trans (Tbs.same s5)).updN hG1 nK
        have hG6 := t6.g hG1
        have hT6 : TdAt H6 Td ts := by rw [hH6]; exact (hT.lt (LT.of s5)).other nKT.symm (fun xs e => by rw [hK5] at e; cases e)
        have ha6 : H6 a = some (.lst (.str (kindS k) :: wsV ws)) := by
          rw [hH6, upd_ne naK, ha5, ← eS]
          rfl
        obtain ⟨rsT, u1, u2, u3⟩ := id hT6
        refine ⟨.ref Td, rfl, .inl ⟨rfl, _, SqL.of u1⟩, .int ln, rfl, .ref a, rfl, .int many, rfl, ln, many, a, k, ws, rfl, hG6, k4', ha6, by have := rl.1; rw [List.length_cons] at this; omega, fun x hx => by have := rl.2 x (List.mem_cons_of_mem _ hx); omega, fun hc => ?_, fun hc hall => ?_, fun hc hall H7 p7 t7 hp7 => ?_⟩
        · dsimp only at hpr
          rw [if_neg hc] at hpr
          rw [hp, hpr] at q
          exact fun H' d' t' e => q H' d' (t1.trans (t6.trans t')) e
        · dsimp only at hpr
          rw [if_pos hc, if_neg (by rw [hall]; exact Bool.false_ne_true)] at hpr
          rw [hp, hpr] at q
          exact fun H' d' t' e => q H' d' (t1.trans (t6.trans t')) e
        · dsimp only at hpr
          rw [if_pos hc, if_pos hall] at hpr
          have u7 := t7.lst hG6 u1
          refine ⟨Td, _, _, rfl, rfl, u7, Nat.lt_of_le_of_lt (show _ ≤ 500001 by rw [List.length_map, u2, lt]; omega) (by decide), ?_⟩
          refine ⟨ks ++ [k], ts ++ [ws.map valN], _, _, rfl, (t6.trans t7).updN hG1 nT1, by rw [upd_ne nKT.symm]; exact t7.lst hG6 hK6, (hT6.lt (LT.tb hG6 t7)).snoc u7 hp7, fun x hx => ?_, by rw [List.length_append, List.length_singleton]; omega, by rw [List.length_append, List.length_append, lt]; rfl, fun x hx => ?_, hpr⟩
          · rcases List.mem_append.mp hx with z | z
            · exact k4 x z
            · rw [List.mem_singleton.mp z]; exact k4'
          · rcases List.mem_append.mp hx with z | z
            · exact lts x z
            · rw [List.mem_singleton.mp z, List.length_map]
              have := rl.1
              rw [List.length_cons] at this
              omega
    · rintro σ H3 ⟨ks, ts, y6, y7, rfl, t3, hK, hT, k4, lk, lt, lts, hpr⟩
      rw [List.length_map, g2, List.drop_length] at hpr
      have hpr : parseR many rows [] [] = .ok (ks, ts) := hpr
      have hq : parseF l many = endR last (ks, ts) := by rw [hp, hpr]
      rw [hq] at q
      have hG3 := t3.g hG1
      obtain ⟨rsT, u1, u2, u3⟩ := id hT
      refine ⟨.ref Kd, rfl, _, .inl ⟨_, SqL.of hK, rfl⟩, ?_⟩
      cases ks with
      | nil =>
        refine ite2 (fun _ => ?_) (fun z => absurd rfl z)
        exact ⟨.int last, rfl, bs_made fun H' d' s' e => q H' d' (t1.trans (t3.trans (Tbs.same s'))) e⟩
      | cons k ks =>
        refine ite2 (fun z => absurd z (show ¬ ((!(!false)) = true) by decide)) (fun _ => ?_)
        have at0 : atI ((k :: ks).map fun k => V.str (kindS k)) ((0 : Nat) : Int) = some (.str (kindS k)) := atI_nat rfl
        refine ⟨.ref Kd, rfl, Kd, _, 0, .str (kindS k), rfl, rfl, SqL.of hK, at0, rfl, ?_⟩
        rw [kind_eq0 k (k4 k (by simp))]
        refine ⟨_, rfl, ite2 (fun h1 => ?_) (fun h1 => ?_)⟩
        · have h1 := of_decide_eq_true h1
          subst h1
          have q : ∀ H' p, Tbs TS H H' → PaAt H' p (.sure (ts.drop 1)) → Q (.ref p) H' := q
          refine ⟨.ref Td, rfl, 1, rfl, Td, _, rfl, SqL.of u1, fun N nN => .inl ⟨N, _, rfl, SqL.of upd_same, fun p np => ⟨by show 2 ≤ sizeLine; decide, fun T nT' => ?_⟩⟩⟩
          rw [cutV1] at *
          have sN := same_new (o := .lst ((rsT.map V.ref).drop 1)) nN
          have sp := same_new (o := .tup ((rsT.map V.ref).drop 1)) np
          have sT := same_new (o := .tup [.str (Str.ofString "sure"), .ref p]) nT'
          have s4 := sN.trans (sp.trans sT)
          refine q _ T (t1.trans (t3.trans (Tbs.same s4))) ⟨p, upd_same, rsT.drop 1, ?_, ?_, fun i x e => ?_⟩
          · rw [List.map_drop]
            exact sT _ _ upd_same
          · rw [List.length_drop, List.length_drop, u2]
          · rw [List.getElem?_drop] at e ⊢
            obtain ⟨r, e1, e2⟩ := u3 _ x e
            exact ⟨r, e1, s4 _ _ e2⟩
        · have h1 : k ≠ 0 := fun z => h1 (decide_eq_true z)
          refine ⟨.ref Kd, rfl, Kd, _, rfl, .inl (SqL.of hK), rfl, _, rfl, ite2 (fun h2 => ?_) (fun h2 => ?_)⟩
          · have h2 := V.int.inj (of_decide_eq_true h2)
            rw [List.length_map, List.length_cons] at h2
            have ek : ks = [] := List.eq_nil_of_length_eq_zero (by omega)
            subst ek
            have e : endR last ([k], ts) = .error (last, "faults expected") := by
              cases k with
              | zero => exact absurd rfl h1
              | succ k => rfl
            rw [e] at q
            exact ⟨.int last, rfl, bs_made fun H' d' s' e => q H' d' (t1.trans (t3.trans (Tbs.same s'))) e⟩
          · obtain ⟨y, ys, rfl⟩ : ∃ y ys, ks = y :: ys := by
              cases ks with
              | nil => exact absurd rfl h2
              | cons y ys => exact ⟨y, ys, rfl⟩
            have e : endR last (k :: y :: ys, ts) = .ok (.uns (ts.getD 0 []) (ts.getD 1 [])) := by
              cases k with
              | zero => exact absurd rfl h1
              | succ k => rfl
            rw [e] at q
            have q : ∀ H' p, Tbs TS H H' → PaAt H' p (.uns (ts.getD 0 []) (ts.getD 1 [])) → Q (.ref p) H' := q
            rw [List.length_cons, List.length_cons] at lt
            obtain ⟨x0, hx0⟩ : ∃ x0, ts[0]? = some x0 := ⟨ts[0]'(by omega), List.getElem?_eq_getElem (by omega)⟩
            obtain ⟨x1, hx1⟩ : ∃ x1, ts[1]? = some x1 := ⟨ts[1]'(by omega), List.getElem?_eq_getElem (by omega)⟩
            rw [List.getD_eq_getElem?_getD, List.getD_eq_getElem?_getD, hx0, hx1] at q
            have q : ∀ H' p, Tbs TS H H' → PaAt H' p (.uns x0 x1) → Q (.ref p) H' := q
            obtain ⟨r0, e0a, e0b⟩ := u3 0 x0 hx0
            obtain ⟨r1, e1a, e1b⟩ := u3 1 x1 hx1
            have lx0 : x0.length ≤ 500001 := lts _ (List.mem_of_getElem? hx0)
            have at00 : atI (rsT.map V.ref) ((0 : Nat) : Int) = some (.ref r0) := atI_nat (by rw [List.getElem?_map, e0a]; rfl)
            have at1 : atI (rsT.map V.ref) ((1 : Nat) : Int) = some (.ref r1) := atI_nat (by rw [List.getElem?_map, e1a]; rfl)
            refine ⟨by show 1 ≤ sizeLine; decide, fun A nA => ?_⟩
            have sA := same_new (o := .tup [.str (Str.ofString "unsure")]) nA
            refine ⟨.ref Td, rfl, Td, _, 0, .ref r0, rfl, rfl, SqL.of (sA _ _ u1), at00, A, r0, _, _, rfl, rfl, SqT.of upd_same, SqT.of (sA _ _ e0b), ?_, fun z => absurd z (by simp), fun _ hz => ?_, fun _ hz c nc => ?_⟩
            · unfold iv
              rw [List.length_map]
              exact Nat.le_trans (show _ ≤ 500002 by show 1 + x0.length ≤ _; omega) (by decide)
            · have hA : (L2.upd H3 A (.tup [.str (Str.ofString "unsure")])) A = some (.tup ([.str (Str.ofString "unsure")] ++ iv x0)) := by rw [upd_same, hz]; rfl
              refine ⟨.ref Td, rfl, Td, _, 1, .ref r1, rfl, rfl, SqL.of (sA _ _ u1), at1, by show 1 ≤ sizeLine; decide, fun B nB => ?_⟩
              have sB := same_new (o := .tup [.ref r1]) nB
              refine ⟨A, B, _, _, rfl, rfl, SqT.of (sB _ _ hA), SqT.of upd_same, ?_, fun z => absurd z (by simp), fun _ z => absurd z (by simp), fun _ _ p np => ?_⟩
              · rw [List.length_append]
                unfold iv
                rw [List.length_map]
                exact Nat.le_trans (show _ ≤ 500003 by show 1 + x0.length + 1 ≤ _; omega) (by decide)
              have sp := same_new (o := .tup ([V.str (Str.ofString "unsure")] ++ iv x0 ++ [.ref r1])) np
              have s6 := sA.trans (sB.trans sp)
              exact q _ p (t1.trans (t3.trans (Tbs.same s6))) ⟨r1, upd_same, s6 _ _ e1b⟩
            · have sc := same_new (o := .tup ([V.str (Str.ofString "unsure")] ++ iv x0)) nc
              have sAc := sA.trans sc
              have hc : (L2.upd (L2.upd H3 A (.tup [.str (Str.ofString "unsure")])) c (.tup ([V.str (Str.ofString "unsure")] ++ iv x0))) c = some (.tup ([.str (Str.ofString "unsure")] ++ iv x0)) := upd_same
              refine ⟨.ref Td, rfl, Td, _, 1, .ref r1, rfl, rfl, SqL.of (sAc _ _ u1), at1, by show 1 ≤ sizeLine; decide, fun B nB => ?_⟩
              have sB := same_new (o := .tup [.ref r1]) nB
              refine ⟨c, B, _, _, rfl, rfl, SqT.of (sB _ _ hc), SqT.of upd_same, ?_, fun z => absurd z (by simp), fun _ z => absurd z (by simp), fun _ _ p np => ?_⟩
              · rw [List.length_append]
                unfold iv
                rw [List.length_map]
                exact Nat.le_trans (show _ ≤ 500003 by show 1 + x0.length + 1 ≤ _; omega) (by decide)
              have sp := same_new (o := .tup ([V.str (Str.ofString "unsure")] ++ iv x0 ++ [.ref r1])) np
              have s6 := sAc.trans (sB.trans sp)
              exact q _ p (t1.trans (t3.trans (Tbs.same s6))) ⟨r1, upd_same, s6 _ _ e1b⟩
end
end Fd

set_option autoImplicit false
set_option Elab.async false
set_option linter.all false
set_option maxRecDepth 100000
set_option maxHeartbeats 4000000
/-! _law_told: the paper read, or the line and the reason -/
namespace Fd
open PySem PySem.Spec PyProof.Rows L2 RZ
/-- what is known of the classes, where the error is caught -/
structure TbC (K : PySem.W.Frag) (mg : Str → Option Value) (C FE CE CT CP : Addr) : Prop where
  gC : mg "BadSystem" = some (.ref C)
  gF : mg "FaultError" = some (.ref FE)
  gE : mg "BadEntry" = some (.ref CE)
  gT : mg "BadState" = some (.ref CT)
  gP : mg "BadPlan" = some (.ref CP)
  noL : PySem.W.findIn K (.ref C) "line" = some none
  noR : PySem.W.findIn K (.ref C) "reason" = some none
  X : ExcC K C
  xf : XfC K C
  ex : PySem.W.exmOne K (.ref C) (.ref FE) = some true
  iE : PySem.W.kitOne K (.ref C) (.ref CE) = some false
  iT : PySem.W.kitOne K (.ref C) (.ref CT) = some false
  iP : PySem.W.kitOne K (.ref C) (.ref CP) = some false
  iS : PySem.W.kitOne K (.ref C) (.ref C) = some true
theorem call_isS {X : L2.Cx} {a : Addr} {pn : List (Addr × Obj)} : CallR (X.suite a pn) (.builtin "isinstance") (rIsi X.K) := call_isi
abbrev sTd : Stmt := topL 33
theorem scTd : FnScope ["text", "many", "e"] ["text", "many"] (defScope sTd) := ⟨rfl, rfl, rfl, by decide +kernel, rfl, by decide +kernel, by decide +kernel⟩
section
variable {P : Program} {w : World} {K : PySem.W.Frag} {mg : Str → Option Value} {base : Heap}
def spTd (TS : List Addr) : Sp := fun vs H Q _ => ∃ (l : List Nat) (many : Int), vs = [.str (tx l), .int many] ∧ TbG TS H ∧ l.length ≤ 500000 ∧
  match parseF l many with
  | .error (i, why) => ∀ H' p, Tbs TS H H' → H' p = some (.lst [.int i, .str why]) → Q (.ref p) H'
  | .ok pa => ∀ H' p, Tbs TS H H' → PaAt H' p pa → Q (.ref p) H'
theorem ok_td {f fP C FE CE CT CP : Addr} {TS : List Addr} {fd fdP : FuncData} (F : Fun K "_law_told" "_law_told" sTd f fd)
    (FP : Fun K "parse_paper" "parse_paper" sPp fP fdP) (GP : FnOk P w K mg base (L2.CX P w) 6 fP fdP ["text", "many"] (spPp C TS)) (bP : Binds K fdP ["text", "many"] []) (gP : mg "parse_paper" = some (.ref fP))
    (T : TbC K mg C FE CE CT CP) (mIs : mg "isinstance" = none) (m_bool : mg "bool" = none) : FnOk P w K mg base CX0 7 f fd ["text", "many"] (spTd TS) := by
  refine F.ok scTd (fun vs H Q E h => ?_) (fun cdv A outer s H vs Q E hr h => ?_)
  · obtain ⟨l, many, rfl, _⟩ := h
    rfl
  · obtain ⟨l, many, rfl, hG, hl, q⟩ := h
    refine ⟨_, pss_one (ps_try_as (i := 2) rfl rfl scTd.nd rfl rfl ⟨rfl, by decide, .inl T.gF⟩ L2.takes0
        (fun W pn xe tk _ => pss_one (ps_ret (pe_callS GP hr (by rfl) gP FP.kp bP (fun σ => passAt tk σ) (pa_cons (pv 0) (pa_cons (pv 1) pa_nil)))))
        (fun a oe cls d pn hz hf => pss_cons (ps_if (PW.pt (pw_or (pt_val (pe_callB (call_isD hz hf) (by rfl) mIs (by decide +kernel) (pa_cons (pv 2) (pa_cons (pe_glob (v := .ref CE) rfl T.gE rfl) pa_nil))))
            (pw_or (pt_val (pe_callB (call_isD hz hf) (by rfl) mIs (by decide +kernel) (pa_cons (pv 2) (pa_cons (pe_glob (v := .ref CP) rfl T.gP rfl) pa_nil))))
            (pw_or1 (pt_val (pe_callB (call_isD hz hf) (by rfl) mIs (by decide +kernel) (pa_cons (pv 2) (pa_cons (pe_glob (v := .ref CT) rfl T.gT rfl) pa_nil))))))))
            (pss_one (ps_ret pe_str)) pss_nil)
          (pss_cons (ps_if (PW.pt (pw_or (pt_not (pt_val (pe_callB (call_isD hz hf) (by rfl) mIs (by decide +kernel) (pa_cons (pv 2) (pa_cons (pe_glob (v := .ref C) rfl T.gC rfl) pa_nil)))))
            (pw_or1 (pt_val (pe_callB call_isS (by rfl) mIs (by decide +kernel) (pa_cons (pe_xf T.xf T.noL hz hf (pv 2)) (pa_cons (pe_bltn (v := .ty "bool") (by rfl) m_bool (by decide +kernel) rfl) pa_nil)))))))
            (pss_one (ps_ret pe_str)) pss_nil)
          (pss_one (ps_ret (pe_lst (pa_cons (pe_xf T.xf T.noL hz hf (pv 2)) (pa_cons (pe_xf T.xf T.noR hz hf (pv 2)) pa_nil)))))))), ?_⟩
    refine ⟨.str (tx l), rfl, .int many, rfl, l, many, rfl, hG, hl, ?_⟩
    cases e : parseF l many with
    | ok pa =>
      rw [e] at q
      exact fun H' p t h => q H' p t h
    | error x =>
      obtain ⟨i, why⟩ := x
      rw [e] at q
      intro H' dd t e'
      refine ⟨true, T.ex, fun _ x hx => ?_, fun z => nomatch z⟩
      refine ⟨.ref x, rfl, C, dd, _, .ref CE, .ref CE, false, rfl, rfl, rfl, T.X, e', fun u r => r, T.iE, _, rfl, ?_⟩
      refine ite2 (fun z => absurd z (by decide)) (fun _ => ?_)
      refine ⟨.ref x, rfl, C, dd, _, .ref CP, .ref CP, false, rfl, rfl, rfl, T.X, e', fun u r => r, T.iP, _, rfl, ?_⟩
      refine ite2 (fun z => absurd z (by decide)) (fun _ => ?_)
      refine ⟨.ref x, rfl, C, dd, _, .ref CT, .ref CT, false, rfl, rfl, rfl, T.X, e', fun u r => r, T.iT, _, rfl, ?_⟩
      refine ite2 (fun z => absurd z (by decide)) (fun _ => ?_)
      refine ⟨.ref x, rfl, C, dd, _, .ref C, .ref C, true, rfl, rfl, rfl, T.X, e', fun u r => r, T.iS, _, rfl, ?_⟩
      refine ite2 (fun z => absurd z (by decide)) (fun _ => ?_)
      have lk1 : List.lookup ("line" : Str) (bsD (V.int i) (V.str why)) = some (V.int i) := by
        unfold bsD
        rw [List.lookup_cons, show (("line" : Str) == ("reason" : Str)) = false by decide +kernel]
        simp [List.lookup]
      have lk2 : List.lookup ("reason" : Str) (bsD (V.int i) (V.str why)) = some (V.str why) := by
        unfold bsD
        simp [List.lookup]
      refine ⟨.ref x, rfl, rfl, rfl, dd, _, .int i, rfl, e', lk1, ?_⟩
      refine ⟨.int i, .ty "bool", .type "int", .type "bool", false, rfl, .ty "bool", .base (.int _), kit_ty (by decide +kernel), _, rfl, ?_⟩
      refine ite2 (fun z => absurd z (by decide)) (fun _ => ?_)
      refine ⟨.ref x, rfl, rfl, rfl, dd, _, .int i, rfl, e', lk1, .ref x, rfl, rfl, rfl, dd, _, .str why, rfl, e', lk2, by show 2 ≤ sizeLine; decide, fun p np => ?_⟩
      exact q _ p (t.trans (Tbs.same (same_new np))) upd_same
end
end Fd

set_option autoImplicit false
set_option Elab.async false
set_option linter.all false
set_option maxRecDepth 100000
set_option maxHeartbeats 4000000
namespace Fd
open PySem PySem.Spec PyProof.Rows L2 RZ
abbrev sPick : Stmt := topL 25
theorem scPick : FnScope ["box", "things"] ["box", "things"] (defScope sPick) := ⟨rfl, rfl, rfl, by decide +kernel, rfl, by decide +kernel, by decide +kernel⟩
abbrev sPickN : List Str := ["box", "things"]
section
variable {P : Program} {w : World} {K : PySem.W.Frag} {mg : Str → Option Value} {base : Heap}
def spPickV : Sp := fun vs H Q _ => ∃ (b D : Addr) (ds : List Int) (n : Nat) (l : Addr) (xs : List V), vs = [.ref b, .ref l] ∧ BoxAt H b D ds n ∧ H l = some (.lst xs) ∧ l ≠ b ∧ xs ≠ [] ∧ xs.length ≤ 100 ∧
  ∀ v, v ∈ xs → Q v (L2.upd H b (.lst [.ref D, .int (n + 1 : Nat)]))
theorem ok_pickV {f fD : Addr} {fd fdD : FuncData} (F : Fun K "_law_pick" "_law_pick" sPick f fd)
    (FD : Fun K "_law_draw" "_law_draw" sDraw fD fdD) (GD : FnOk P w K mg base CX0 1 fD fdD ["box", "many"] spDraw) (bD : Binds K fdD ["box", "many"] []) (gD : mg "_law_draw" = some (.ref fD))
    (mI : mg "int" = none) (mLen : mg "len" = none) : FnOk P w K mg base CX0 2 f fd ["box", "things"] spPickV := by
  refine F.ok scPick (fun vs H Q E h => ?_) (fun cdv A outer s H vs Q E hr h => ?_)
  · obtain ⟨b, D, ds, n, l, xs, rfl, _⟩ := h
    rfl
  · obtain ⟨b, D, ds, n, l, xs, rfl, hB, hl, nlb, hne, hx, q⟩ := h
    refine ⟨_, pss_one (ps_ret (pe_ix ix_list (pv 1) (pe_op op_mod (pe_callTy call_int1 (by rfl) mI (by decide +kernel) (pa_cons (pe_call GD hr (by rfl) gD FD.kp bD .nil pass0 (pa_cons (pv 0) (pa_cons (pe_int) pa_nil))) pa_nil)) (pe_callB call_len_seq (by rfl) mLen PySem.boot_len (pa_cons (pv 1) pa_nil))) (fun _ _ => rfl))), ?_⟩
    have ln : 0 < xs.length := List.length_pos_iff.mpr hne
    refine ⟨.ref l, rfl, .ref b, rfl, b, D, ds, n, 900, rfl, hB, by decide, fun c c0 c9 => ?_⟩
    have hl2 : (L2.upd H b (.lst [.ref D, .int (n + 1 : Nat)])) l = some (.lst xs) := by rw [upd_ne nlb]; exact hl
    refine .inl ⟨c, rfl, .ref l, rfl, l, _, rfl, .inl (SqL.of hl2), _, _, rfl, rfl, by omega, ?_⟩
    have e1 : (0 : Int) ≤ c % (xs.length : Int) := Int.emod_nonneg _ (by omega)
    have e2 : c % (xs.length : Int) < xs.length := Int.emod_lt_of_pos _ (by omega)
    obtain ⟨k, hk⟩ : ∃ k : Nat, c % (xs.length : Int) = (k : Int) := ⟨(c % (xs.length : Int)).toNat, by omega⟩
    have hkl : k < xs.length := by omega
    dsimp only
    rw [hk]
    exact ⟨l, _, k, xs[k], rfl, rfl, SqL.of hl2, atI_nat (List.getElem?_eq_getElem hkl), q _ (List.getElem_mem hkl)⟩
end
end Fd

set_option autoImplicit false
set_option Elab.async false
set_option linter.all false
set_option maxRecDepth 100000
set_option maxHeartbeats 4000000
namespace Fd
open PySem PySem.Spec PyProof.Rows L2 RZ
abbrev sNb : Stmt := topL 27
theorem scNb : FnScope ["box", "most"] ["box", "most"] (defScope sNb) := ⟨rfl, rfl, rfl, by decide +kernel, rfl, by decide +kernel, by decide +kernel⟩
abbrev sNbN : List Str := ["box", "most"]
section
variable {P : Program} {w : World} {K : PySem.W.Frag} {mg : Str → Option Value} {base : Heap}
def spNb : Sp := fun vs H Q _ => ∃ (b D : Addr) (ds : List Int) (n : Nat) (most : Int), vs = [.ref b, .int most] ∧ BoxAt H b D ds n ∧ 9 ≤ most ∧ most ≤ 1000000000 ∧
  ∀ H' n' c, SmB b H H' → BoxAt H' b D ds n' → 0 ≤ c → c ≤ most → Q (.int c) H'
theorem ok_nb {f fPk fD : Addr} {fd fdPk fdD : FuncData} (F : Fun K "_law_number" "_law_number" sNb f fd)
    (FPk : Fun K "_law_pick" "_law_pick" sPick fPk fdPk) (GPk : FnOk P w K mg base CX0 2 fPk fdPk ["box", "things"] spPickV) (bPk : Binds K fdPk ["box", "things"] []) (gPk : mg "_law_pick" = some (.ref fPk))
    (FD : Fun K "_law_draw" "_law_draw" sDraw fD fdD) (GD : FnOk P w K mg base CX0 1 fD fdD ["box", "many"] spDraw) (bD : Binds K fdD ["box", "many"] []) (gD : mg "_law_draw" = some (.ref fD))
    (mI : mg "int" = none) : FnOk P w K mg base CX0 3 f fd ["box", "most"] spNb := by
  refine F.ok scNb (fun vs H Q E h => ?_) (fun cdv A outer s H vs Q E hr h => ?_)
  · obtain ⟨b, D, ds, n, most, rfl, _⟩ := h
    rfl
  · obtain ⟨b, D, ds, n, most, rfl, hB, m9, mb, q⟩ := h
    have hr1 : Room 1 _ := hr.mono (by decide)
    refine ⟨_, pss_one (ps_ret (pe_call GPk hr (by rfl) gPk FPk.kp bPk .nil pass0 (pa_cons (pv 0) (pa_cons (pe_lst (pa_cons (pe_int) (pa_cons (pv 1) (pa_cons (pe_call GD hr1 (by rfl) gD FD.kp bD .nil pass0 (pa_cons (pv 0) (pa_cons (pe_int) pa_nil))) (pa_cons (pe_op op_mod (pe_callTy call_int1 (by rfl) mI (by decide +kernel) (pa_cons (pe_op op_mul (pe_call GD hr1 (by rfl) gD FD.kp bD .nil pass0 (pa_cons (pv 0) (pa_cons (pe_int) pa_nil))) (pe_int)) pa_nil)) (pe_op op_add (pv 1) (pe_int))) pa_nil))))) pa_nil)))), ?_⟩
    refine ⟨.ref b, rfl, .int most, rfl, .ref b, rfl, b, D, ds, n, 10, rfl, hB, by decide, fun c1 c10 c11 => ?_⟩
    have hB1 := hB.bump
    refine ⟨.ref b, rfl, b, D, ds, n + 1, 1000, rfl, hB1, by decide, fun c2 c20 c21 => ?_⟩
    have hB2 := hB1.bump
    refine ⟨c2, 7, rfl, rfl, .inr ⟨by decide, by decide⟩, .inl ⟨c2 * 7, rfl, .int most, rfl, most, 1, rfl, rfl, c2 * 7, most + 1, rfl, rfl, by omega, ?_⟩⟩
    have e1 : (0 : Int) ≤ c2 * 7 % (most + 1) := Int.emod_nonneg _ (by omega)
    have e2 : c2 * 7 % (most + 1) < most + 1 := Int.emod_lt_of_pos _ (by omega)
    refine ⟨by show 4 ≤ sizeLine; decide, fun l nl => ?_⟩
    have sl := same_new (o := .lst [.int 0, .int most, .int c1, .int (c2 * 7 % (most + 1))]) nl
    have hB3 := hB2.same sl
    have nlb : l ≠ b := fun z => by rw [z, hB2.1] at nl; cases nl
    refine ⟨b, D, ds, n + 1 + 1, l, _, rfl, hB3, upd_same, nlb, by simp, by show 4 ≤ 100; decide, fun v hv => ?_⟩
    have sm : ∀ {H' : Hp} {o : HO}, SmB b H H' → SmB b H (L2.upd H' b o) := fun s => s.trans SmB.upd
    have s3 := sm (o := .lst [.ref D, .int (n + 1 + 1 + 1 : Nat)]) ((sm (o := .lst [.ref D, .int (n + 1 + 1 : Nat)]) (sm (o := .lst [.ref D, .int (n + 1 : Nat)]) (SmB.refl b H))).trans (SmB.of sl))
    have key : ∀ c : Int, v = .int c → 0 ≤ c → c ≤ most → Q v _ := fun c e h1 h2 => by
      rw [e]
      exact q _ (n + 1 + 1 + 1) c s3 hB3.bump h1 h2
    simp only [List.mem_cons, List.not_mem_nil, or_false] at hv
    rcases hv with rfl | rfl | rfl | rfl
    · exact key 0 rfl (by omega) (by omega)
    · exact key most rfl (by omega) (by omega)
    · exact key c1 rfl (by omega) (by omega)
    · exact key _ rfl e1 (by omega)
end
end Fd

set_option autoImplicit false
set_option Elab.async false
set_option linter.all false
set_option maxRecDepth 100000
set_option maxHeartbeats 4000000
/-! lines whose words stand loose -/
namespace Fd
open PySem PySem.Spec PyProof.Rows L2 TL
def goodW (w : List Nat) : Prop := w ≠ [] ∧ (∀ c ∈ w, Unicode.isSpace c = false) ∧ hashB w = false
theorem sp_32 : Unicode.isSpace 32 = true := by decide +kernel
theorem fold_sp (ws : List (List Nat)) : ∀ n, (List.replicate n 32).foldl wstep (ws, []) = (ws, []) := by
  intro n
  induction n with
  | zero => rfl
  | succ n ih =>
    rw [List.replicate_succ, List.foldl_cons]
    have e : wstep (ws, []) 32 = (ws, []) := by unfold wstep; rw [if_pos sp_32, if_pos rfl]
    rw [e]
    exact ih
theorem fold_word (ws : List (List Nat)) {w : List Nat} (h : goodW w) (n : Nat) : (w ++ List.replicate (n + 1) 32).foldl wstep (ws, []) = (ws ++ [w], []) := by
  rw [List.foldl_append, wfold_word w ws [] h.2.1, List.nil_append, List.replicate_succ, List.foldl_cons]
  have e : wstep (ws, w) 32 = (ws ++ [w], []) := by unfold wstep; rw [if_pos sp_32, if_neg h.1]
  rw [e]
  exact fold_sp _ n
theorem fold_pre (ws : List (List Nat)) : ∀ (t : List Nat) (vs : List (List Nat)) (u : List Nat), t.foldl wstep (ws ++ vs, u) = (ws ++ (t.foldl wstep (vs, u)).1, (t.foldl wstep (vs, u)).2) := by
  intro t
  induction t with
  | nil => intro vs u; rfl
  | cons c t ih =>
    intro vs u
    rw [List.foldl_cons, List.foldl_cons]
    by_cases hc : Unicode.isSpace c = true
    · by_cases hu : u = []
      · have e1 : wstep (ws ++ vs, u) c = (ws ++ vs, u) := by unfold wstep; rw [if_pos hc, if_pos hu]
        have e2 : wstep (vs, u) c = (vs, u) := by unfold wstep; rw [if_pos hc, if_pos hu]
        rw [e1, e2]
        exact ih vs u
      · have e1 : wstep (ws ++ vs, u) c = (ws ++ (vs ++ [u]), []) := by unfold wstep; rw [if_pos hc, if_neg hu, List.append_assoc]
        have e2 : wstep (vs, u) c = (vs ++ [u], []) := by unfold wstep; rw [if_pos hc, if_neg hu]
        rw [e1, e2]
        exact ih _ _
    · have e1 : wstep (ws ++ vs, u) c = (ws ++ vs, u ++ [c]) := by unfold wstep; rw [if_neg hc]
      have e2 : wstep (vs, u) c = (vs, u ++ [c]) := by unfold wstep; rw [if_neg hc]
      rw [e1, e2]
      exact ih _ _
/-- the words of a line that is over, and a tail -/
theorem ws_tail {l : List Nat} {ws : List (List Nat)} (h : l.foldl wstep ([], []) = (ws, [])) (t : List Nat) : wsL (l ++ t) = ws ++ wsL t := by
  unfold wsL
  rw [List.foldl_append, h]
  have := fold_pre ws t [] []
  rw [List.append_nil] at this
  rw [this]
  unfold wfin
  dsimp only
  split
  · rfl
  · rw [List.append_assoc]
theorem lw_tail {l : List Nat} {ws : List (List Nat)} (h : l.foldl wstep ([], []) = (ws, [])) (g : ∀ w ∈ ws, hashB w = false) {t : List Nat} (ht : lwL t = []) : lwL (l ++ t) = ws := by
  unfold lwL at ht ⊢
  rw [ws_tail h]
  have : ∀ ws : List (List Nat), (∀ w ∈ ws, hashB w = false) → (ws ++ wsL t).takeWhile (fun w => !hashB w) = ws := by
    intro ws
    induction ws with
    | nil => intro _; exact ht
    | cons w ws ih =>
      intro g
      rw [List.cons_append, List.takeWhile_cons, g w (by simp), ih fun x hx => g x (by simp [hx])]
      rfl
  exact this ws g
theorem lw_nil : lwL [] = [] := rfl
end Fd

set_option autoImplicit false
set_option Elab.async false
set_option linter.all false
set_option maxRecDepth 100000
set_option maxHeartbeats 4000000
namespace Fd
open PySem PySem.Spec PyProof.Rows L2 RZ
abbrev sEl : Stmt := topL 29
theorem scEl : FnScope ["box"] ["box"] (defScope sEl) := ⟨rfl, rfl, rfl, by decide +kernel, rfl, by decide +kernel, by decide +kernel⟩
abbrev sElN : List Str := ["box"]
/-- a line of spaces and remarks -/
structure EmL (l : List Nat) : Prop where
  w : lwL l = []
  m : l.all mayB = true
  n : (10 : Nat) ∉ l
  z : l.length ≤ 20
def elT : List (List Nat) := [[], [32, 32], [35, 32, 114, 117, 110, 32, 49], [32, 32, 32, 35, 98, 117, 100, 103, 101, 116]]
theorem el_ok : ∀ l ∈ elT, EmL l := by
  have k1 : ∀ l ∈ elT, lwL l = [] := by decide +kernel
  have k2 : ∀ l ∈ elT, l.all mayB = true := by decide +kernel
  have k3 : ∀ l ∈ elT, (10 : Nat) ∉ l := by decide +kernel
  have k4 : ∀ l ∈ elT, l.length ≤ 20 := by decide +kernel
  exact fun l h => ⟨k1 l h, k2 l h, k3 l h, k4 l h⟩
theorem el_0 : Str.ofString "" = tx [] := by decide +kernel
theorem el_1 : Str.ofString "  " = tx [32, 32] := by decide +kernel
theorem el_2 : Str.ofString "# run 1" = tx [35, 32, 114, 117, 110, 32, 49] := by decide +kernel
theorem el_3 : Str.ofString "   #budget" = tx [32, 32, 32, 35, 98, 117, 100, 103, 101, 116] := by decide +kernel
section
variable {P : Program} {w : World} {K : PySem.W.Frag} {mg : Str → Option Value} {base : Heap}
def spEl : Sp := fun vs H Q _ => ∃ (b D : Addr) (ds : List Int) (n : Nat), vs = [.ref b] ∧ BoxAt H b D ds n ∧
  ∀ H' n' l, SmB b H H' → BoxAt H' b D ds n' → EmL l → Q (.str (tx l)) H'
theorem ok_el {f fPk : Addr} {fd fdPk : FuncData} (F : Fun K "_law_empty_line" "_law_empty_line" sEl f fd)
    (FPk : Fun K "_law_pick" "_law_pick" sPick fPk fdPk) (GPk : FnOk P w K mg base CX0 2 fPk fdPk ["box", "things"] spPickV) (bPk : Binds K fdPk ["box", "things"] []) (gPk : mg "_law_pick" = some (.ref fPk))
     : FnOk P w K mg base CX0 3 f fd ["box"] spEl := by
  refine F.ok scEl (fun vs H Q E h => ?_) (fun cdv A outer s H vs Q E hr h => ?_)
  · obtain ⟨b, D, ds, n, rfl, _⟩ := h
    rfl
  · obtain ⟨b, D, ds, n, rfl, hB, q⟩ := h
    refine ⟨_, pss_one (ps_ret (pe_call GPk hr (by rfl) gPk FPk.kp bPk .nil pass0 (pa_cons (pv 0) (pa_cons (pe_lst (pa_cons (pe_str) (pa_cons (pe_str) (pa_cons (pe_str) (pa_cons (pe_str) pa_nil))))) pa_nil)))), ?_⟩
    refine ⟨.ref b, rfl, by show 4 ≤ sizeLine; decide, fun l nl => ?_⟩
    have sl := same_new (o := .lst [.str (Str.ofString ""), .str (Str.ofString "  "), .str (Str.ofString "# run 1"), .str (Str.ofString "   #budget")]) nl
    have hB1 := hB.same sl
    have nlb : l ≠ b := fun z => by rw [z, hB.1] at nl; cases nl
    refine ⟨b, D, ds, n, l, _, rfl, hB1, upd_same, nlb, by simp, by show 4 ≤ 100; decide, fun v hv => ?_⟩
    have key : ∀ l : List Nat, v = .str (tx l) → l ∈ elT → Q v _ := fun l e h => by
      rw [e]
      exact q _ (n + 1) l ((SmB.of sl).trans SmB.upd) hB1.bump (el_ok l h)
    simp only [List.mem_cons, List.not_mem_nil, or_false] at hv
    rcases hv with rfl | rfl | rfl | rfl
    · exact key _ (by rw [el_0]) (by simp [elT])
    · exact key _ (by rw [el_1]) (by simp [elT])
    · exact key _ (by rw [el_2]) (by simp [elT])
    · exact key _ (by rw [el_3]) (by simp [elT])
end
end Fd

set_option autoImplicit false
set_option Elab.async false
set_option linter.all false
set_option maxRecDepth 100000
set_option maxHeartbeats 4000000
namespace Fd
open PySem PySem.Spec PyProof.Rows L2 RZ
abbrev sLo : Stmt := topL 28
theorem scLo : FnScope ["box", "words", "line", "word"] ["box", "words"] (defScope sLo) := ⟨rfl, rfl, rfl, by decide +kernel, rfl, by decide +kernel, by decide +kernel⟩
abbrev sLoN : List Str := ["box", "words", "line", "word"]
def tlT : List (List Nat) := [[35], [35, 32, 98, 117, 100, 103, 101, 116, 32, 120], [35, 114, 117, 110, 32, 53, 32, 126, 32, 123], [35, 32, 32]]
theorem tl_ok : ∀ l ∈ tlT, EmL l := by
  have k1 : ∀ l ∈ tlT, lwL l = [] := by decide +kernel
  have k2 : ∀ l ∈ tlT, l.all mayB = true := by decide +kernel
  have k3 : ∀ l ∈ tlT, (10 : Nat) ∉ l := by decide +kernel
  have k4 : ∀ l ∈ tlT, l.length ≤ 20 := by decide +kernel
  exact fun l h => ⟨k1 l h, k2 l h, k3 l h, k4 l h⟩
theorem tl_0 : Str.ofString "#" = tx [35] := by decide +kernel
theorem tl_1 : Str.ofString "# budget x" = tx [35, 32, 98, 117, 100, 103, 101, 116, 32, 120] := by decide +kernel
theorem tl_2 : Str.ofString "#run 5 ~ {" = tx [35, 114, 117, 110, 32, 53, 32, 126, 32, 123] := by decide +kernel
theorem tl_3 : Str.ofString "#  " = tx [35, 32, 32] := by decide +kernel
/-- a word of a line -/
structure WdG (w : List Nat) : Prop where
  g : goodW w
  m : w.all mayB = true
  z : w.length ≤ 20
/-- a line that has these words -/
structure LnG (ws : List (List Nat)) (l : List Nat) : Prop where
  w : lwL l = ws
  m : l.all mayB = true
  n : (10 : Nat) ∉ l
  z : l.length ≤ 40 + 40 * ws.length
theorem sgn_sp1 : Str.ofString " " = tx [32] := by decide +kernel
theorem all_sp (n : Nat) : (List.replicate n 32).all mayB = true := by
  rw [List.all_eq_true]
  intro x hx
  rw [(List.mem_replicate.mp hx).2]
  decide
theorem no10 {w : List Nat} (h : WdG w) : (10 : Nat) ∉ w := fun z => by
  have := h.g.2.1 10 z
  exact absurd this (by decide +kernel)
theorem no10_sp (n : Nat) : (10 : Nat) ∉ List.replicate n 32 := fun z => by have := (List.mem_replicate.mp z).2; omega
section
variable {P : Program} {w : World} {K : PySem.W.Frag} {mg : Str → Option Value} {base : Heap}
def spLo : Sp := fun vs H Q _ => ∃ (b D : Addr) (ds : List Int) (n : Nat) (a : Addr) (ws : List (List Nat)), vs = [.ref b, .ref a] ∧ BoxAt H b D ds n ∧ H a = some (.lst (wsV ws)) ∧ a ≠ b ∧ ws.length ≤ 20 ∧ (∀ w ∈ ws, WdG w) ∧
  ∀ H' n' l, SmB b H H' → BoxAt H' b D ds n' → LnG ws l → Q (.str (tx l)) H'
theorem ok_lo {f fD fPk : Addr} {fd fdD fdPk : FuncData} (F : Fun K "_law_loose" "_law_loose" sLo f fd)
    (FD : Fun K "_law_draw" "_law_draw" sDraw fD fdD) (GD : FnOk P w K mg base CX0 1 fD fdD ["box", "many"] spDraw) (bD : Binds K fdD ["box", "many"] []) (gD : mg "_law_draw" = some (.ref fD))
    (FPk : Fun K "_law_pick" "_law_pick" sPick fPk fdPk) (GPk : FnOk P w K mg base CX0 2 fPk fdPk ["box", "things"] spPickV) (bPk : Binds K fdPk ["box", "things"] []) (gPk : mg "_law_pick" = some (.ref fPk))
     : FnOk P w K mg base CX0 3 f fd ["box", "words"] spLo := by
  refine F.ok scLo (fun vs H Q E h => ?_) (fun cdv A outer s H vs Q E hr h => ?_)
  · obtain ⟨b, D, ds, n, a, ws, rfl, _⟩ := h
    rfl
  · obtain ⟨b, D, ds, n, a, ws, rfl, hB, ha, nab, lws, wg, q⟩ := h
    have hr1 : Room 1 _ := hr.mono (by decide)
    refine ⟨_, pss_cons (ps_set (i := 2) scLo.nd rfl (.inl rfl) (pe_op op_repS (pe_str) (pe_op op_mul (pe_call GD hr1 (by rfl) gD FD.kp bD .nil pass0 (pa_cons (pv 0) (pa_cons (pe_int) pa_nil))) (pe_call GD hr1 (by rfl) gD FD.kp bD .nil pass0 (pa_cons (pv 0) (pa_cons (pe_int) pa_nil))))))
      (pss_cons (ps_for PassesOwn.never rfl (pi_list (pv 1)) (pg_name (i := 3) scLo.nd rfl (.inl rfl))
        (pss_one (ps_set (i := 2) scLo.nd rfl (.inl rfl) (pe_op op_add_str (pe_op op_add_str (pv 2) (pv 3)) (pe_op op_repS (pe_str) (pe_op op_add (pe_int) (pe_op op_mul (pe_call GD hr1 (by rfl) gD FD.kp bD .nil pass0 (pa_cons (pv 0) (pa_cons (pe_int) pa_nil))) (pe_call GD hr1 (by rfl) gD FD.kp bD .nil pass0 (pa_cons (pv 0) (pa_cons (pe_int) pa_nil))))))))))
      (pss_cons (ps_if (pt_cmpR op_eq (pe_call GD hr1 (by rfl) gD FD.kp bD .nil pass0 (pa_cons (pv 0) (pa_cons (pe_int) pa_nil))) (pe_int) (nomark _))
        (pss_one (ps_ret (pe_op op_add_str (pv 2) (pe_call GPk hr (by rfl) gPk FPk.kp bPk .nil pass0 (pa_cons (pv 0) (pa_cons (pe_lst (pa_cons (pe_str) (pa_cons (pe_str) (pa_cons (pe_str) (pa_cons (pe_str) pa_nil))))) pa_nil)))))) pss_nil)
      (pss_one (ps_ret (pv 2))))), ?_⟩
    have big : 2000000 ≤ sizeLine := by decide
    have rp : ∀ n, (List.replicate n [32]).flatten = List.replicate n 32 := fun n => by simp
    refine ⟨.ref b, rfl, b, D, ds, n, 3, rfl, hB, by decide, fun c1 c10 c11 => ?_⟩
    have hB1 := hB.bump
    refine ⟨.ref b, rfl, b, D, ds, n + 1, 2, rfl, hB1, by decide, fun c2 c20 c21 => ?_⟩
    have hB2 := hB1.bump
    have m0 : 0 ≤ c1 * c2 := Int.mul_nonneg c10 c20
    have m1 : c1 * c2 ≤ 2 := by
      have : c2 = 0 ∨ c2 = 1 := by omega
      rcases this with rfl | rfl <;> omega
    refine ⟨c1, c2, rfl, rfl, .inr ⟨by omega, by omega⟩, [32], c1 * c2, congrArg V.str sgn_sp1, rfl, by omega, by omega, by show 1 * _ ≤ _; omega, ?_⟩
    rw [rp]
    obtain ⟨k0, hk0⟩ : ∃ k0 : Nat, k0 = (c1 * c2).toNat := ⟨_, rfl⟩
    have k02 : k0 ≤ 2 := by omega
    rw [← hk0]
    refine st_go (σ' := [some (.ref b), some (.ref a), some (.str (tx (List.replicate k0 32))), none]) rfl ?_
    obtain ⟨H2, hH2⟩ : ∃ H2, H2 = L2.upd (L2.upd H b (.lst [.ref D, .int (n + 1 : Nat)])) b (.lst [.ref D, .int (n + 1 + 1 : Nat)]) := ⟨_, rfl⟩
    have s2 : SmB b H H2 := by rw [hH2]; exact SmB.upd.trans SmB.upd
    rw [← hH2] at hB2 ⊢
    have lwv : (wsV ws).length = ws.length := by unfold wsV; rw [List.length_map]
    refine ⟨.ref a, rfl, a, rfl, ⟨_, SqL.of (s2 _ _ nab ha)⟩, ?_⟩
    refine for_it walk_list (fun k σ H' => ∃ l y3 n', σ = [some (.ref b), some (.ref a), some (.str (tx l)), y3] ∧ SmB b H H' ∧ BoxAt H' b D ds n' ∧ l.foldl TL.wstep ([], []) = (ws.take k, []) ∧ l.all mayB = true ∧ (10 : Nat) ∉ l ∧ l.length ≤ 10 + 30 * k)
      ⟨List.replicate k0 32, none, n + 1 + 1, rfl, s2, hB2, fold_sp [] k0, all_sp k0, no10_sp k0, by rw [List.length_replicate]; omega⟩ (fun k σ H' _ h => by obtain ⟨_, _, _, _, h, _⟩ := h; exact SqL.of (h _ _ nab ha)) ?_ ?_
    · rintro k x σ H3 H4 hk ⟨l, y3, n', rfl, s3, hB3, hf, hm, hn, hz⟩ ⟨rfl, hx⟩
      rw [lwv] at hk
      unfold wsV at hx
      rw [List.getElem?_map, List.getElem?_eq_getElem hk] at hx
      cases hx
      obtain ⟨w, hw⟩ : ∃ w, w = ws[k] := ⟨_, rfl⟩
      have gw := wg _ (List.getElem_mem hk)
      rw [← hw] at gw ⊢
      have zw := gw.z
      refine st_go (σ' := [some (.ref b), some (.ref a), some (.str (tx l)), some (.str (tx w))]) rfl ?_
      refine ⟨.str (tx l), rfl, .str (tx w), rfl, _, _, rfl, rfl, by rw [tx_len, tx_len]; omega, ?_⟩
      rw [tx_add]
      refine ⟨.ref b, rfl, b, D, ds, n', 2, rfl, hB3, by decide, fun d1 d10 d11 => ?_⟩
      have hB4 := hB3.bump
      refine ⟨.ref b, rfl, b, D, ds, n' + 1, 3, rfl, hB4, by decide, fun d2 d20 d21 => ?_⟩
      have hB5 := hB4.bump
      have p0 : 0 ≤ d1 * d2 := Int.mul_nonneg d10 d20
      have p1 : d1 * d2 ≤ 2 := by
        have : d1 = 0 ∨ d1 = 1 := by omega
        rcases this with rfl | rfl <;> omega
      refine ⟨d1, d2, rfl, rfl, .inr ⟨by omega, by omega⟩, 1, d1 * d2, rfl, rfl, [32], 1 + d1 * d2, congrArg V.str sgn_sp1, rfl, by omega, by omega, by show 1 * _ ≤ _; omega, ?_⟩
      rw [rp]
      obtain ⟨k1, hk1⟩ : ∃ k1 : Nat, (1 + d1 * d2).toNat = k1 + 1 := ⟨(d1 * d2).toNat, by omega⟩
      have k12 : k1 ≤ 2 := by omega
      rw [hk1]
      refine ⟨_, _, rfl, rfl, by rw [tx_len, tx_len, List.length_append, List.length_replicate]; omega, ?_⟩
      rw [tx_add]
      refine st_go (σ' := [some (.ref b), some (.ref a), some (.str (tx (l ++ w ++ List.replicate (k1 + 1) 32))), some (.str (tx w))]) rfl ?_
      refine ⟨_, _, n' + 1 + 1, rfl, s3.trans (SmB.upd.trans SmB.upd), hB5, ?_, ?_, ?_, ?_⟩
      · rw [List.append_assoc, List.foldl_append, hf, fold_word _ gw.g, List.take_add_one, List.getElem?_eq_getElem hk, ← hw]
        rfl
      · rw [List.all_append, List.all_append, hm, gw.m, all_sp]
        rfl
      · intro h
        rcases List.mem_append.mp h with h | h
        · rcases List.mem_append.mp h with h | h
          · exact hn h
          · exact no10 gw h
        · exact no10_sp _ h
      · rw [List.length_append, List.length_append, List.length_replicate]
        omega
    · rintro σ H3 ⟨l, y3, n', rfl, s3, hB3, hf, hm, hn, hz⟩
      rw [lwv, List.take_length] at hf
      rw [lwv] at hz
      have gh : ∀ w ∈ ws, hashB w = false := fun w hw => (wg w hw).g.2.2
      have fin : ∀ t, EmL t → LnG ws (l ++ t) := fun t h => ⟨lw_tail hf gh h.w, by rw [List.all_append, hm, h.m]; rfl, fun z => (List.mem_append.mp z).elim hn h.n, by rw [List.length_append]; have := h.z; omega⟩
      refine ⟨.ref b, rfl, b, D, ds, n', 3, rfl, hB3, by decide, fun d d0 d1 => ⟨rfl, _, rfl, ite2 (fun _ => ?_) (fun _ => ?_)⟩⟩
      · have hB4 := hB3.bump
        refine ⟨.str (tx l), rfl, .ref b, rfl, by show 4 ≤ sizeLine; decide, fun t nt => ?_⟩
        have st := same_new (o := .lst [.str (Str.ofString "#"), .str (Str.ofString "# budget x"), .str (Str.ofString "#run 5 ~ {"), .str (Str.ofString "#  ")]) nt
        have hB5 := hB4.same st
        have ntb : t ≠ b := fun z => by rw [z, hB4.1] at nt; cases nt
        refine ⟨b, D, ds, n' + 1, t, _, rfl, hB5, upd_same, ntb, by simp, by show 4 ≤ 100; decide, fun v hv => ?_⟩
        have sF := (s3.trans SmB.upd).trans ((SmB.of st).trans (SmB.upd (o := .lst [.ref D, .int (n' + 1 + 1 : Nat)])))
        have key : ∀ tl : List Nat, v = .str (tx tl) → tl ∈ tlT → rStr (.str (tx l)) v _ Q := fun tl e h => by
          have ok := tl_ok tl h
          refine ⟨tx l, tx tl, rfl, e, by rw [tx_len, tx_len]; have := ok.z; omega, ?_⟩
          rw [tx_add]
          exact q _ _ _ sF hB5.bump (fin tl ok)
        simp only [List.mem_cons, List.not_mem_nil, or_false] at hv
        rcases hv with rfl | rfl | rfl | rfl
        · exact key _ (by rw [tl_0]) (by simp [tlT])
        · exact key _ (by rw [tl_1]) (by simp [tlT])
        · exact key _ (by rw [tl_2]) (by simp [tlT])
        · exact key _ (by rw [tl_3]) (by simp [tlT])
      · have e := fin [] (el_ok [] (by simp [elT]))
        rw [List.append_nil] at e
        exact ⟨.str (tx l), rfl, q _ _ _ (s3.trans SmB.upd) hB3.bump e⟩
end
end Fd

set_option autoImplicit false
set_option Elab.async false
set_option linter.all false
set_option maxRecDepth 100000
set_option maxHeartbeats 4000000
/-! a text made of lines: its rows -/
namespace Fd
open PySem PySem.Spec PyProof.Rows L2 RZ
def rowsA : Int → List (List Nat) → List Rr
  | _, [] => []
  | i, x :: r => (if lwL x = [] then [] else [(i, lwL x)]) ++ rowsA (i + 1) r
theorem rowsA_snoc : ∀ (ls : List (List Nat)) (i : Int) (x : List Nat), rowsA i (ls ++ [x]) = rowsA i ls ++ if lwL x = [] then [] else [(i + (ls.length : Int), lwL x)] := by
  intro ls
  induction ls with
  | nil =>
    intro i x
    show (if lwL x = [] then [] else [(i, lwL x)]) ++ [] = [] ++ _
    rw [List.append_nil, List.nil_append, List.length_nil, show i + ((0 : Nat) : Int) = i by omega]
  | cons y ls ih =>
    intro i x
    rw [List.cons_append]
    show _ ++ rowsA (i + 1) (ls ++ [x]) = (_ ++ rowsA (i + 1) ls) ++ _
    rw [ih, List.append_assoc, List.length_cons, show i + 1 + (ls.length : Int) = i + ((ls.length + 1 : Nat) : Int) by omega]
theorem rowsN_A (l : List Nat) : ∀ n, n ≤ (linesL l).length → rowsN l n = rowsA 1 ((linesL l).take n) := by
  intro n
  induction n with
  | zero => intro _; rfl
  | succ n ih =>
    intro h
    have e := ih (by omega)
    unfold rowsN at e ⊢
    have eI : lineI l n = lwL (linesL l)[n] := by unfold lineI; rw [List.getD_eq_getElem?_getD, List.getElem?_eq_getElem (by omega)]; rfl
    rw [allR_succ, List.filter_append, e, List.take_add_one, List.getElem?_eq_getElem (by omega), Option.toList_some, rowsA_snoc, List.length_take, Nat.min_eq_left (by omega), eI]
    congr 1
    by_cases c : lwL (linesL l)[n] = []
    · rw [if_pos c, List.filter_cons_of_neg (by simp [c])]
      rfl
    · rw [if_neg c, List.filter_cons_of_pos (by simp [c]), Int.add_comm]
      rfl
theorem rowsF_A (l : List Nat) : rowsF l = rowsA 1 (linesL l) := by
  unfold rowsF
  rw [rowsN_A l _ (Nat.le_refl _), List.take_length]
def txL (ls : List (List Nat)) : List Nat := ls.flatMap fun l => l ++ [10]
theorem txL_snoc (ls : List (List Nat)) (x : List Nat) : txL (ls ++ [x]) = txL ls ++ x ++ [10] := by
  unfold txL
  rw [List.flatMap_append]
  simp
theorem lines_tx {ls : List (List Nat)} (h : ∀ l ∈ ls, (10 : Nat) ∉ l) : linesL (txL ls) = ls ++ [[]] := spl_lines ls h
theorem rows_tx {ls : List (List Nat)} (h : ∀ l ∈ ls, (10 : Nat) ∉ l) : rowsF (txL ls) = rowsA 1 ls := by
  rw [rowsF_A, lines_tx h, rowsA_snoc]
  exact List.append_nil _
/-- the lines so far, as a text: the numbers ns of the lines that have the words Ls -/
structure TxG (ls : List (List Nat)) (ns : List Int) (Ls : List (List (List Nat))) (z : Nat) : Prop where
  n : ∀ l ∈ ls, (10 : Nat) ∉ l
  m : (txL ls).all mayB = true
  r : rowsA 1 ls = (ns.zip Ls)
  l : ns.length = Ls.length
  z : (txL ls).length ≤ z
theorem may10 : mayB 10 = true := by decide
theorem TxG.empty {ls : List (List Nat)} {ns : List Int} {Ls : List (List (List Nat))} {z : Nat} (h : TxG ls ns Ls z) {x : List Nat} (e : EmL x) : TxG (ls ++ [x]) ns Ls (z + 21) := by
  refine ⟨fun l hl => ?_, ?_, ?_, h.l, ?_⟩
  · rcases List.mem_append.mp hl with a | a
    · exact h.n l a
    · rw [List.mem_singleton.mp a]; exact e.n
  · rw [txL_snoc, List.all_append, List.all_append, h.m, e.m]
    decide
  · rw [rowsA_snoc, if_pos e.w, List.append_nil]
    exact h.r
  · rw [txL_snoc, List.length_append, List.length_append, List.length_singleton]
    have := h.z
    have := e.z
    omega
theorem TxG.line {ls : List (List Nat)} {ns : List Int} {Ls : List (List (List Nat))} {z : Nat} (h : TxG ls ns Ls z) {x : List Nat} {ws : List (List Nat)} (e : LnG ws x) (ne : ws ≠ []) : TxG (ls ++ [x]) (ns ++ [(ls.length : Int) + 1]) (Ls ++ [ws]) (z + 41 + 40 * ws.length) := by
  refine ⟨fun l hl => ?_, ?_, ?_, ?_, ?_⟩
  · rcases List.mem_append.mp hl with a | a
    · exact h.n l a
    · rw [List.mem_singleton.mp a]; exact e.n
  · rw [txL_snoc, List.all_append, List.all_append, h.m, e.m]
    decide
  · rw [rowsA_snoc, e.w, if_neg ne, h.r, List.zip_append h.l, Int.add_comm]
    rfl
  · rw [List.length_append, List.length_append, h.l]
    rfl
  · rw [txL_snoc, List.length_append, List.length_append, List.length_singleton]
    have := h.z
    have := e.z
    omega
end Fd

set_option autoImplicit false
set_option Elab.async false
set_option linter.all false
set_option maxRecDepth 100000
set_option maxHeartbeats 4000000
namespace Fd
open PySem PySem.Spec PyProof.Rows L2 RZ
abbrev sTt : Stmt := topL 32
theorem scTt : FnScope ["box", "lines", "text", "numbers", "count", "words", "turn"] ["box", "lines"] (defScope sTt) := ⟨rfl, rfl, rfl, by decide +kernel, rfl, by decide +kernel, by decide +kernel⟩
abbrev sTtN : List Str := ["box", "lines", "text", "numbers", "count", "words", "turn"]
def LnsAt (b : Addr) (H : Hp) (a : Addr) (Ls : List (List (List Nat))) : Prop := ∃ rs : List Addr, H a = some (.lst (rs.map V.ref)) ∧ rs.length = Ls.length ∧ ∀ (i : Nat) (ws : List (List Nat)), Ls[i]? = some ws → ∃ r, rs[i]? = some r ∧ r ≠ b ∧ H r = some (.lst (wsV ws))
theorem SmB.newAt {b p : Addr} {H H' : Hp} {o : HO} (s : SmB b H H') (h : H p = none) : SmB b H (L2.upd H' p o) := fun c u n e => by
  rw [upd_ne fun z => by rw [z, h] at e; cases e]
  exact s c u n e
structure WsG (ws : List (List Nat)) : Prop where
  ne : ws ≠ []
  z : ws.length ≤ 8
  g : ∀ w ∈ ws, WdG w
section
variable {P : Program} {w : World} {K : PySem.W.Frag} {mg : Str → Option Value} {base : Heap}
def spTt : Sp := fun vs H Q _ => ∃ (b D : Addr) (ds : List Int) (n : Nat) (a : Addr) (Ls : List (List (List Nat))), vs = [.ref b, .ref a] ∧ BoxAt H b D ds n ∧ a ≠ b ∧ LnsAt b H a Ls ∧ Ls.length ≤ 12 ∧ (∀ ws ∈ Ls, WsG ws) ∧
  ∀ H' n' p N ls ns, SmB b H H' → BoxAt H' b D ds n' → H' p = some (.lst [.str (tx (txL ls)), .ref N, .int ((ls.length : Int) + 1)]) → H' N = some (.lst (iv ns)) → TxG ls ns Ls 6000 → Q (.ref p) H'
theorem ok_tt {f fD fEl fLo : Addr} {fd fdD fdEl fdLo : FuncData} (F : Fun K "_law_text" "_law_text" sTt f fd)
    (FD : Fun K "_law_draw" "_law_draw" sDraw fD fdD) (GD : FnOk P w K mg base CX0 1 fD fdD ["box", "many"] spDraw) (bD : Binds K fdD ["box", "many"] []) (gD : mg "_law_draw" = some (.ref fD))
    (FEl : Fun K "_law_empty_line" "_law_empty_line" sEl fEl fdEl) (GEl : FnOk P w K mg base CX0 3 fEl fdEl ["box"] spEl) (bEl : Binds K fdEl ["box"] []) (gEl : mg "_law_empty_line" = some (.ref fEl))
    (FLo : Fun K "_law_loose" "_law_loose" sLo fLo fdLo) (GLo : FnOk P w K mg base CX0 3 fLo fdLo ["box", "words"] spLo) (bLo : Binds K fdLo ["box", "words"] []) (gLo : mg "_law_loose" = some (.ref fLo))
    (mR : mg "range" = none) : FnOk P w K mg base CX0 4 f fd ["box", "lines"] spTt := by
  refine F.ok scTt (fun vs H Q E h => ?_) (fun cdv A outer s H vs Q E hr h => ?_)
  · obtain ⟨b, D, ds, n, a, Ls, rfl, _⟩ := h
    rfl
  · obtain ⟨b, D, ds, n, a, Ls, rfl, hB, nab, hL, l12, wg, q⟩ := h
    have hr1 : Room 1 _ := hr.mono (by decide)
    refine ⟨_, pss_cons (ps_set (i := 2) scTt.nd rfl (.inl rfl) (pe_str))
      (pss_cons (ps_set (i := 3) scTt.nd rfl (.inl rfl) (pe_lst pa_nil))
      (pss_cons (ps_set (i := 4) scTt.nd rfl (.inl rfl) (pe_int))
      (pss_cons (ps_for PassesOwn.never rfl (pi_list (pv 1)) (pg_name (i := 5) scTt.nd rfl (.inl rfl))
        (pss_cons (ps_for PassesOwn.never rfl (pi_range1 (by rfl) mR (pa_cons (pe_op op_mul (pe_call GD hr1 (by rfl) gD FD.kp bD .nil pass0 (pa_cons (pv 0) (pa_cons (pe_int) pa_nil))) (pe_call GD hr1 (by rfl) gD FD.kp bD .nil pass0 (pa_cons (pv 0) (pa_cons (pe_int) pa_nil)))) pa_nil)) (pg_name (i := 6) scTt.nd rfl (.inl rfl))
          (pss_cons (ps_set (i := 2) scTt.nd rfl (.inl rfl) (pe_op op_add_str (pe_op op_add_str (pv 2) (pe_call GEl hr (by rfl) gEl FEl.kp bEl .nil pass0 (pa_cons (pv 0) pa_nil))) (pe_str)))
          (pss_one (ps_set (i := 4) scTt.nd rfl (.inl rfl) (pe_op op_add (pv 4) (pe_int))))))
        (pss_cons (ps_set (i := 2) scTt.nd rfl (.inl rfl) (pe_op op_add_str (pe_op op_add_str (pv 2) (pe_call GLo hr (by rfl) gLo FLo.kp bLo .nil pass0 (pa_cons (pv 0) (pa_cons (pv 5) pa_nil)))) (pe_str)))
        (pss_cons (ps_set (i := 4) scTt.nd rfl (.inl rfl) (pe_op op_add (pv 4) (pe_int)))
        (pss_one (ps_expr (pe_bm PySem.F.plainAttrs_list PySem.F.slot_list_append PySem.F.type_list_append mt_append (pv 3) (pa_cons (pv 4) pa_nil))))))))
      (pss_cons (ps_for PassesOwn.never rfl (pi_range1 (by rfl) mR (pa_cons (pe_call GD hr1 (by rfl) gD FD.kp bD .nil pass0 (pa_cons (pv 0) (pa_cons (pe_int) pa_nil))) pa_nil)) (pg_name (i := 6) scTt.nd rfl (.inl rfl))
        (pss_cons (ps_set (i := 2) scTt.nd rfl (.inl rfl) (pe_op op_add_str (pe_op op_add_str (pv 2) (pe_call GEl hr (by rfl) gEl FEl.kp bEl .nil pass0 (pa_cons (pv 0) pa_nil))) (pe_str)))
        (pss_one (ps_set (i := 4) scTt.nd rfl (.inl rfl) (pe_op op_add (pv 4) (pe_int))))))
      (pss_one (ps_ret (pe_lst (pa_cons (pv 2) (pa_cons (pv 3) (pa_cons (pe_op op_add (pv 4) (pe_int)) pa_nil)))))))))), ?_⟩
    have big : 2000000 ≤ sizeLine := by decide
    refine st_go (σ' := [some (.ref b), some (.ref a), some (.str (tx [])), none, none, none, none]) rfl ?_
    refine ⟨by show 0 ≤ sizeLine; decide, fun N nN => ?_⟩
    have sN := same_new (o := .lst []) nN
    have hBN := hB.same sN
    have nNb : N ≠ b := fun z => by rw [z, hB.1] at nN; cases nN
    have nND : N ≠ D := fun z => by rw [z, hB.2] at nN; cases nN
    refine st_go (σ' := [some (.ref b), some (.ref a), some (.str (tx [])), some (.ref N), none, none, none]) rfl ?_
    obtain ⟨rs, g1, g2, g3⟩ := hL
    refine ⟨.ref a, rfl, a, rfl, ⟨_, SqL.of (sN _ _ g1)⟩, ?_⟩
    refine for_it walk_list (fun k σ H' => ∃ ls ns y5 y6 n', σ = [some (.ref b), some (.ref a), some (.str (tx (txL ls))), some (.ref N), some (.int ((ls.length : Nat) : Int)), y5, y6] ∧ SmB b H H' ∧ BoxAt H' b D ds n' ∧ H' N = some (.lst (iv ns)) ∧ TxG ls ns (Ls.take k) (403 * k))
      ⟨[], [], none, none, n, rfl, SmB.of sN, hBN, upd_same, ⟨fun l h => (nomatch h), rfl, rfl, rfl, Nat.le_refl 0⟩⟩ (fun k σ H' _ h => by obtain ⟨_, _, _, _, _, _, h, _⟩ := h; exact SqL.of (h _ _ nab g1)) ?_ ?_
    · rintro k x σ H3 H4 hk ⟨ls, ns, y5, y6, n', rfl, s3, hB3, hN3, hx⟩ ⟨rfl, hv⟩
      rw [List.length_map, g2] at hk
      obtain ⟨r, e1, nrb, e2⟩ := g3 k _ (List.getElem?_eq_getElem hk)
      rw [List.getElem?_map, e1] at hv
      have hv : some (V.ref r) = some x := hv
      cases hv
      obtain ⟨ws, hws⟩ : ∃ ws, ws = Ls[k] := ⟨_, rfl⟩
      have gw := wg _ (List.getElem_mem hk)
      rw [← hws] at gw e2
      refine st_go (σ' := [some (.ref b), some (.ref a), some (.str (tx (txL ls))), some (.ref N), some (.int ((ls.length : Nat) : Int)), some (.ref r), y6]) rfl ?_
      refine ⟨.ref b, rfl, b, D, ds, n', 2, rfl, hB3, by decide, fun d1 d10 d11 => ?_⟩
      have hB4 := hB3.bump
      refine ⟨.ref b, rfl, b, D, ds, n' + 1, 3, rfl, hB4, by decide, fun d2 d20 d21 => ?_⟩
      have hB5 := hB4.bump
      have p0 : 0 ≤ d1 * d2 := Int.mul_nonneg d10 d20
      have p1 : d1 * d2 ≤ 2 := by
        have : d1 = 0 ∨ d1 = 1 := by omega
        rcases this with rfl | rfl <;> omega
      have s5 := s3.trans ((SmB.upd (o := .lst [.ref D, .int (n' + 1 : Nat)])).trans (SmB.upd (o := .lst [.ref D, .int (n' + 1 + 1 : Nat)])))
      refine ⟨d1, d2, rfl, rfl, .inr ⟨by omega, by omega⟩, d1 * d2, rfl, by omega, by omega, ?_⟩
      refine for_range (n := (d1 * d2).toNat) (fun j σ H' => ∃ ls y6 n', σ = [some (.ref b), some (.ref a), some (.str (tx (txL ls))), some (.ref N), some (.int ((ls.length : Nat) : Int)), some (.ref r), y6] ∧ SmB b H H' ∧ BoxAt H' b D ds n' ∧ H' N = some (.lst (iv ns)) ∧ TxG ls ns (Ls.take k) (403 * k + 21 * j))
        ⟨ls, _, _, rfl, s5, hB5, by rw [upd_ne nNb, upd_ne nNb]; exact hN3, by rw [Nat.mul_zero, Nat.add_zero]; exact hx⟩ ?_ ?_
      · rintro j σ H6 hj ⟨ls, y6, n6, rfl, s6, hB6, hN6, hx⟩
        rw [Int.zero_add]
        refine st_go (σ' := [some (.ref b), some (.ref a), some (.str (tx (txL ls))), some (.ref N), some (.int ((ls.length : Nat) : Int)), some (.ref r), some (.int (j : Int))]) rfl ?_
        refine ⟨.str (tx (txL ls)), rfl, .ref b, rfl, b, D, ds, n6, rfl, hB6, fun H7 n7 x s7 hB7 ex => ?_⟩
        have zx := ex.z
        have zl := hx.z
        refine ⟨_, _, rfl, rfl, by rw [tx_len, tx_len]; omega, ?_⟩
        rw [tx_add]
        refine ⟨_, _, rfl, rfl, by rw [sgn_nl1, tx_len, tx_len, List.length_append, List.length_singleton]; omega, ?_⟩
        rw [sgn_nl1, tx_add, ← txL_snoc]
        refine st_go (σ' := [some (.ref b), some (.ref a), some (.str (tx (txL (ls ++ [x])))), some (.ref N), some (.int ((ls.length : Nat) : Int)), some (.ref r), some (.int (j : Int))]) rfl ?_
        refine ⟨.int (ls.length : Nat), rfl, _, _, rfl, rfl, ?_⟩
        refine st_go (σ' := [some (.ref b), some (.ref a), some (.str (tx (txL (ls ++ [x])))), some (.ref N), some (.int (((ls ++ [x]).length : Nat) : Int)), some (.ref r), some (.int (j : Int))]) (by rw [List.length_append, List.length_singleton]; rfl) ?_
        exact ⟨ls ++ [x], _, n7, rfl, s6.trans s7, hB7, s7 _ _ nNb hN6, by have := hx.empty ex; rw [show 403 * k + 21 * (j + 1) = 403 * k + 21 * j + 21 by omega]; exact this⟩
      rintro σ H6 ⟨ls, y6, n6, rfl, s6, hB6, hN6, hx⟩
      have hx2 : (d1 * d2).toNat ≤ 2 := by omega
      have hr6 := s6 _ _ nrb e2
      refine ⟨.str (tx (txL ls)), rfl, .ref b, rfl, .ref r, rfl, b, D, ds, n6, r, ws, rfl, hB6, hr6, nrb, by have := gw.z; omega, gw.g, fun H7 n7 x s7 hB7 lx => ?_⟩
      have zx := lx.z
      have zl := hx.z
      have zw := gw.z
      refine ⟨_, _, rfl, rfl, by rw [tx_len, tx_len]; omega, ?_⟩
      rw [tx_add]
      refine ⟨_, _, rfl, rfl, by rw [sgn_nl1, tx_len, tx_len, List.length_append, List.length_singleton]; omega, ?_⟩
      rw [sgn_nl1, tx_add, ← txL_snoc]
      refine st_go (σ' := [some (.ref b), some (.ref a), some (.str (tx (txL (ls ++ [x])))), some (.ref N), some (.int ((ls.length : Nat) : Int)), some (.ref r), y6]) rfl ?_
      refine ⟨.int (ls.length : Nat), rfl, _, _, rfl, rfl, ?_⟩
      refine st_go (σ' := [some (.ref b), some (.ref a), some (.str (tx (txL (ls ++ [x])))), some (.ref N), some (.int (((ls ++ [x]).length : Nat) : Int)), some (.ref r), y6]) (by rw [List.length_append, List.length_singleton]; rfl) ?_
      have hN7 := s7 _ _ nNb hN6
      have lns : (iv ns).length ≤ 12 := by
        unfold iv
        rw [List.length_map, hx.l, List.length_take]
        omega
      refine ⟨.ref N, rfl, .inl ⟨rfl, _, SqL.of hN7⟩, .int ((ls ++ [x]).length : Nat), rfl, N, _, _, rfl, rfl, hN7, Nat.lt_of_le_of_lt lns (by decide), ?_⟩
      refine ⟨ls ++ [x], ns ++ [(ls.length : Int) + 1], _, _, n7, rfl, (s6.trans s7).newAt nN, ⟨by rw [upd_ne nNb.symm]; exact hB7.1, by rw [upd_ne nND.symm]; exact hB7.2⟩, ?_, ?_⟩
      · rw [upd_same]
        unfold iv
        rw [List.map_append, List.length_append, List.length_singleton]
        rfl
      · have t := hx.line lx gw.ne
        rw [List.take_add_one, List.getElem?_eq_getElem hk, ← hws]
        exact ⟨t.n, t.m, t.r, t.l, by have := t.z; omega⟩
    · rintro σ H3 ⟨ls, ns, y5, y6, n', rfl, s3, hB3, hN3, hx⟩
      rw [List.length_map, g2, List.take_length] at hx
      refine ⟨.ref b, rfl, b, D, ds, n', 2, rfl, hB3, by decide, fun d d0 d1 => ⟨d, rfl, by omega, by omega, ?_⟩⟩
      have hB4 := hB3.bump
      refine for_range (n := (d).toNat) (fun j σ H' => ∃ ls y6 n', σ = [some (.ref b), some (.ref a), some (.str (tx (txL ls))), some (.ref N), some (.int ((ls.length : Nat) : Int)), y5, y6] ∧ SmB b H H' ∧ BoxAt H' b D ds n' ∧ H' N = some (.lst (iv ns)) ∧ TxG ls ns Ls (403 * Ls.length + 21 * j))
        ⟨ls, _, _, rfl, s3.trans SmB.upd, hB4, by rw [upd_ne nNb]; exact hN3, by rw [Nat.mul_zero, Nat.add_zero]; exact hx⟩ ?_ ?_
      · rintro j σ H6 hj ⟨ls, y6, n6, rfl, s6, hB6, hN6, hx⟩
        rw [Int.zero_add]
        refine st_go (σ' := [some (.ref b), some (.ref a), some (.str (tx (txL ls))), some (.ref N), some (.int ((ls.length : Nat) : Int)), y5, some (.int (j : Int))]) rfl ?_
        refine ⟨.str (tx (txL ls)), rfl, .ref b, rfl, b, D, ds, n6, rfl, hB6, fun H7 n7 x s7 hB7 ex => ?_⟩
        have zx := ex.z
        have zl := hx.z
        refine ⟨_, _, rfl, rfl, by rw [tx_len, tx_len]; omega, ?_⟩
        rw [tx_add]
        refine ⟨_, _, rfl, rfl, by rw [sgn_nl1, tx_len, tx_len, List.length_append, List.length_singleton]; omega, ?_⟩
        rw [sgn_nl1, tx_add, ← txL_snoc]
        refine st_go (σ' := [some (.ref b), some (.ref a), some (.str (tx (txL (ls ++ [x])))), some (.ref N), some (.int ((ls.length : Nat) : Int)), y5, some (.int (j : Int))]) rfl ?_
        refine ⟨.int (ls.length : Nat), rfl, _, _, rfl, rfl, ?_⟩
        refine st_go (σ' := [some (.ref b), some (.ref a), some (.str (tx (txL (ls ++ [x])))), some (.ref N), some (.int (((ls ++ [x]).length : Nat) : Int)), y5, some (.int (j : Int))]) (by rw [List.length_append, List.length_singleton]; rfl) ?_
        exact ⟨ls ++ [x], _, n7, rfl, s6.trans s7, hB7, s7 _ _ nNb hN6, by have := hx.empty ex; rw [show 403 * Ls.length + 21 * (j + 1) = 403 * Ls.length + 21 * j + 21 by omega]; exact this⟩
      rintro σ H6 ⟨ls, y6, n6, rfl, s6, hB6, hN6, hx⟩
      refine ⟨.str (tx (txL ls)), rfl, .ref N, rfl, .int (ls.length : Nat), rfl, _, _, rfl, rfl, by show 3 ≤ sizeLine; decide, fun p np => ?_⟩
      have sp := same_new (o := .lst [.str (tx (txL ls)), .ref N, .int (((ls.length : Nat) : Int) + 1)]) np
      exact q _ n6 p N ls ns (s6.trans (SmB.of sp)) (hB6.same sp) upd_same (sp _ _ hN6) ⟨hx.n, hx.m, hx.r, hx.l, by have := hx.z; omega⟩
end
end Fd

set_option autoImplicit false
set_option Elab.async false
set_option linter.all false
set_option maxRecDepth 100000
set_option maxHeartbeats 4000000
namespace Fd
open PySem PySem.Spec PyProof.Rows L2 RZ
abbrev sLl : Stmt := topL 31
theorem scLl : FnScope ["paper", "number", "row"] ["paper"] (defScope sLl) := ⟨rfl, rfl, rfl, by decide +kernel, rfl, by decide +kernel, by decide +kernel⟩
abbrev sLlN : List Str := ["paper", "number", "row"]
def numT (x : Int) : List Nat := TL.numL x.toNat
theorem str_num {x : Int} (h : 0 ≤ x) : Str.ofString (toString x) = tx (numT x) := by
  obtain ⟨n, rfl⟩ : ∃ n : Nat, x = (n : Int) := ⟨x.toNat, by omega⟩
  refine tx_eq ?_
  exact TL.tl_num n
def nrow (k : Nat) (row : List Int) : List (List Nat) := kindT k :: row.map numT
def linesP : Pap → List (List (List Nat))
  | .sure R => [kindT 0] :: R.map (nrow 2)
  | .uns a b => [nrow 1 a, nrow 3 b]
def okN (row : List Int) : Prop := row.length ≤ 8 ∧ ∀ x ∈ row, 0 ≤ x ∧ x ≤ 999999
structure PaG (pa : Pap) : Prop where
  s : ∀ R, pa = .sure R → R.length ≤ 9 ∧ ∀ row ∈ R, okN row
  u : ∀ a b, pa = .uns a b → a.length = 2 ∧ okN a ∧ okN b
theorem wsV_nrow (k : Nat) (row : List Int) : wsV (nrow k row) = .str (kindS k) :: row.map fun x => V.str (tx (numT x)) := by
  unfold wsV nrow
  rw [List.map_cons, List.map_map, kindS_tx]
  rfl
section
variable {P : Program} {w : World} {K : PySem.W.Frag} {mg : Str → Option Value} {base : Heap}
def spLl : Sp := fun vs H Q _ => ∃ (p : Addr) (pa : Pap), vs = [.ref p] ∧ PaAt H p pa ∧ PaG pa ∧ ∀ H' a, Same H H' → (∀ b, H b ≠ none → a ≠ b ∧ LnsAt b H' a (linesP pa)) → Q (.ref a) H'
theorem ok_ll {f : Addr} {fd : FuncData} (F : Fun K "_law_lines" "_law_lines" sLl f fd)
    (m_str : mg "str" = none) : FnOk P w K mg base CX0 1 f fd ["paper"] spLl := by
  refine F.ok scLl (fun vs H Q E h => ?_) (fun cdv A outer s H vs Q E hr h => ?_)
  · obtain ⟨p, pa, rfl, h⟩ := h
    rfl
  · obtain ⟨p, pa, rfl, hP, hg, q⟩ := h
    refine ⟨_, pss_cons (ps_if (pt_cmpR op_eq (pe_ix ix_tup (pv 0) (pe_int) (fun _ _ => rfl)) (pe_str) (nomark _))
        (pss_one (ps_ret (pe_op op_cat (pe_lst (pa_cons (pe_lst (pa_cons (pe_str) pa_nil)) pa_nil)) (pe_lc (own := [("row", 2)]) (g := gName 2) (tt := tYes) (te := tOp (rCat) (tLst (tCons (tC (.str "prices")) tNil)) (tLc (iTup K (tVar 2)) (gName 1) (tYes) (tCB rStrI (tCons (tVar 1) tNil)) [1])) rfl scLl.nd (pi_tup (pe_ix ix_tup (pv 0) (pe_int) (fun _ _ => rfl)))
            (blkOk_by (N := sLlN) (sc := defScope sLl) (by decide +kernel))
            (fun _ _ _ _ _ => pg_name (i := 2) scLl.nd rfl (.inl rfl)) (fun _ _ _ _ _ => pts_nil)
            (fun _ _ _ _ _ => pe_op op_cat (pe_lst (pa_cons (pe_str) pa_nil)) (pe_lc (own := [("number", 1)]) (g := gName 1) (tt := tYes) (te := tCB rStrI (tCons (tVar 1) tNil)) rfl scLl.nd (pi_tup (pv 2))
            (blkOk_by (N := sLlN) (sc := (⟨.function, [(".0", .local), ("row", .local)], false, false, []⟩ : Scope)) (by decide +kernel))
            (fun _ _ _ _ _ => pg_name (i := 1) scLl.nd rfl (.inl rfl)) (fun _ _ _ _ _ => pts_nil)
            (fun _ _ _ _ _ => pe_callTy call_str_int (by rfl) m_str (by decide +kernel) (pa_cons (pv 1) pa_nil)))))))) pss_nil)
      (pss_one (ps_ret (pe_lst (pa_cons (pe_lst (pa_cons (pe_str) (pa_cons (pe_callTy call_str_int (by rfl) m_str (by decide +kernel) (pa_cons (pe_ix ix_tup (pv 0) (pe_int) (fun _ _ => rfl)) pa_nil)) (pa_cons (pe_callTy call_str_int (by rfl) m_str (by decide +kernel) (pa_cons (pe_ix ix_tup (pv 0) (pe_int) (fun _ _ => rfl)) pa_nil)) pa_nil)))) (pa_cons (pe_op op_cat (pe_lst (pa_cons (pe_str) pa_nil)) (pe_lc (own := [("number", 1)]) (g := gName 1) (tt := tYes) (te := tCB rStrI (tCons (tVar 1) tNil)) rfl scLl.nd (pi_tup (pe_ix ix_tup (pv 0) (pe_int) (fun _ _ => rfl)))
            (blkOk_by (N := sLlN) (sc := defScope sLl) (by decide +kernel))
            (fun _ _ _ _ _ => pg_name (i := 1) scLl.nd rfl (.inl rfl)) (fun _ _ _ _ _ => pts_nil)
            (fun _ _ _ _ _ => pe_callTy call_str_int (by rfl) m_str (by decide +kernel) (pa_cons (pv 1) pa_nil)))) pa_nil))))), ?_⟩
    have big : 2000000 ≤ sizeLine := by decide
    have lg : ∀ x : Int, 0 ≤ x → x ≤ 999999 → x.natAbs.log2 < 1920 := fun x h1 h2 => by
      by_cases h4 : x.natAbs = 0
      · rw [h4]; decide
      · exact (Nat.log2_lt h4).mpr (Nat.lt_of_lt_of_le (show x.natAbs < 2 ^ 20 by omega) (Nat.pow_le_pow_right (by decide) (by decide)))
    have none_of : ∀ {H1 H2 : Hp} {r : Addr}, Same H1 H2 → H2 r = none → H1 r = none := fun {H1 H2 r} s n => by
      cases e : H1 r with
      | none => rfl
      | some o => rw [s _ _ e] at n; cases n
    cases pa with
    | sure R =>
      obtain ⟨a, hp, rs, ha, lrs, hr⟩ := hP
      obtain ⟨lR, gR⟩ := hg.s R rfl
      refine ⟨.ref p, rfl, p, _, 0, .str (Str.ofString "sure"), rfl, rfl, SqT.of hp, rfl, rfl, _, rfl, ite2 (fun _ => ?_) (fun z => absurd (decide_eq_true rfl) z)⟩
      refine ⟨by show 1 ≤ sizeLine; decide, fun A nA => ⟨by show 1 ≤ sizeLine; decide, fun B nB => ?_⟩⟩
      have sA := same_new (o := .lst [.str (Str.ofString "sure")]) nA
      have sB := sA.trans (same_new (o := .lst [.ref A]) nB)
      obtain ⟨H2, hH2⟩ : ∃ H2, H2 = L2.upd (L2.upd H A (.lst [.str (Str.ofString "sure")])) B (.lst [.ref A]) := ⟨_, rfl⟩
      have hB2 : H2 B = some (.lst [.ref A]) := by rw [hH2]; exact upd_same
      have hA2 : H2 A = some (.lst [.str (Str.ofString "sure")]) := by rw [hH2]; exact same_new nB _ _ upd_same
      rw [← hH2] at sB ⊢
      refine ⟨.ref p, rfl, p, _, 1, .ref a, rfl, rfl, SqT.of (sB _ _ hp), rfl, a, rfl, ⟨_, SqT.of (sB _ _ ha)⟩, fun D nD => ?_⟩
      refine lc_it walk_tup (fun i H' => Same H2 H' ∧ ∃ ds : List Addr, H' D = some (.lst (ds.map V.ref)) ∧ ds.length = i ∧ ∀ (j : Nat) (row : List Int), j < i → R[j]? = some row → ∃ r, ds[j]? = some r ∧ r ≠ D ∧ H r = none ∧ H' r = some (.lst (wsV (nrow 2 row))))
        ⟨same_new nD, [], upd_same, rfl, fun j row h => absurd h (Nat.not_lt_zero j)⟩ (fun i H' _ h => SqT.of (h.1 _ _ (sB _ _ ha))) ?_ ?_
      · rintro i x H3 H4 hi ⟨s3, ds, hD, lds, hds⟩ ⟨rfl, hx⟩
        rw [List.length_map, lrs] at hi
        obtain ⟨r0, e1, e2⟩ := hr i _ (List.getElem?_eq_getElem hi)
        rw [List.getElem?_map, e1] at hx
        have hx : some (V.ref r0) = some x := hx
        cases hx
        obtain ⟨row, hrow⟩ : ∃ row, row = R[i] := ⟨_, rfl⟩
        have grow := gR _ (List.getElem_mem hi)
        rw [← hrow] at grow e2
        have e3 := (sB.trans s3) _ _ e2
        refine ⟨rfl, ?_⟩
        dsimp only [tYes]
        rw [if_pos rfl]
        refine ⟨by show 1 ≤ sizeLine; decide, fun C1 n1 => ?_⟩
        have s1 := same_new (o := .lst [.str (Str.ofString "prices")]) n1
        refine ⟨.ref r0, rfl, r0, rfl, ⟨_, SqT.of (s1 _ _ e3)⟩, fun C2 n2 => ?_⟩
        refine lc_it walk_tup (fun j H' => Same (L2.upd H4 C1 (.lst [.str (Str.ofString "prices")])) H' ∧ H' C2 = some (.lst ((row.take j).map fun x => V.str (tx (numT x))))) ⟨same_new n2, upd_same⟩ (fun j H' _ h => SqT.of (h.1 _ _ (s1 _ _ e3))) ?_ ?_
        · rintro j y H5 H6 hj ⟨s5, h2⟩ ⟨rfl, hy⟩
          unfold iv at hj hy
          rw [List.length_map] at hj
          rw [List.getElem?_map, List.getElem?_eq_getElem hj] at hy
          cases hy
          have gy := grow.2 _ (List.getElem_mem hj)
          refine ⟨rfl, ?_⟩
          dsimp only [tYes]
          rw [if_pos rfl]
          refine ⟨.int row[j], rfl, row[j], rfl, lg _ gy.1 gy.2, _, h2, Nat.lt_of_le_of_lt (show _ ≤ 100 by rw [List.length_map, List.length_take]; have := grow.1; omega) (by decide), same_upd' s5 n2, ?_⟩
          rw [upd_same, List.take_add_one, List.getElem?_eq_getElem hj, List.map_append, str_num gy.1]
          rfl
        rintro H5 ⟨s5, h2⟩
        unfold iv at h2
        rw [List.length_map, List.take_length] at h2
        have h1 := s5 _ _ (upd_same : (L2.upd H4 C1 (.lst [.str (Str.ofString "prices")])) C1 = _)
        refine ⟨C1, C2, _, _, rfl, rfl, h1, h2, Nat.le_trans (show _ ≤ 100 by rw [List.length_map]; have := grow.1; show 1 + row.length ≤ 100; omega) (by decide), fun C3 n3 => ?_⟩
        have s35 := s1.trans s5
        have s3c := s35.trans (same_new (o := .lst ([V.str (Str.ofString "prices")] ++ row.map fun x => V.str (tx (numT x)))) n3)
        have n3' := none_of s35 n3
        refine ⟨_, s3c _ _ hD, Nat.lt_of_le_of_lt (show _ ≤ 100 by rw [List.length_map]; omega) (by decide), same_upd' (s3.trans s3c) nD, ds ++ [C3], by rw [upd_same, List.map_append]; rfl, by rw [List.length_append, lds]; rfl, fun j row' hj e => ?_⟩
        have nC3D : C3 ≠ D := fun z => by rw [z, s35 _ _ hD] at n3; cases n3
        by_cases c : j < i
        · obtain ⟨r, f1, f2, f3, f4⟩ := hds j row' c e
          exact ⟨r, by rw [List.getElem?_append_left (by omega)]; exact f1, f2, f3, by rw [upd_ne f2]; exact s3c _ _ f4⟩
        · have : j = i := by omega
          subst this
          rw [List.getElem?_eq_getElem hi, ← hrow] at e
          cases e
          refine ⟨C3, by rw [List.getElem?_append_right (by omega), lds, Nat.sub_self]; rfl, nC3D, none_of (sB.trans s3) n3', ?_⟩
          rw [upd_ne nC3D, upd_same, wsV_nrow]
          rfl
      rintro H3 ⟨s3, ds, hD, lds, hds⟩
      rw [List.length_map, lrs] at lds hds
      have hB3 := s3 _ _ hB2
      refine ⟨B, D, _, _, rfl, rfl, hB3, hD, Nat.le_trans (show _ ≤ 100 by rw [List.length_map, lds]; show 1 + R.length ≤ 100; omega) (by decide), fun G nG => ?_⟩
      have sG := same_new (o := .lst ([V.ref A] ++ ds.map V.ref)) nG
      have sF := (sB.trans s3).trans sG
      refine q _ G sF fun b hb => ⟨fun z => hb (by rw [← z]; exact none_of (sB.trans s3) nG), A :: ds, upd_same, ?_, fun i ws e => ?_⟩
      · show ds.length + 1 = (R.map (nrow 2)).length + 1
        rw [lds, List.length_map]
      · cases i with
        | zero =>
          cases e
          refine ⟨A, rfl, fun z => hb (by rw [← z]; exact nA), ?_⟩
          rw [(s3.trans sG) _ _ hA2]
          rfl
        | succ i =>
          have e : (R.map (nrow 2))[i]? = some ws := e
          rw [List.getElem?_map] at e
          cases er : R[i]? with
          | none => rw [er] at e; cases e
          | some row =>
            rw [er] at e
            cases e
            obtain ⟨r, f1, f2, f3, f4⟩ := hds i row (List.getElem?_eq_some_iff.mp er).1 er
            exact ⟨r, f1, fun z => hb (by rw [← z]; exact f3), sG _ _ f4⟩
    | uns x y =>
      obtain ⟨r, hp, hr⟩ := hP
      obtain ⟨l2, gx, gy⟩ := hg.u x y rfl
      obtain ⟨s0, e0, rfl⟩ : ∃ s0 e0, x = [s0, e0] := by
        match x, l2 with
        | [s0, e0], _ => exact ⟨s0, e0, rfl⟩
      have hp : H p = some (.tup [.str (Str.ofString "unsure"), .int s0, .int e0, .ref r]) := hp
      refine ⟨.ref p, rfl, p, _, 0, .str (Str.ofString "unsure"), rfl, rfl, SqT.of hp, rfl, rfl, _, rfl, ite2 (fun z => absurd z ?_) (fun _ => ?_)⟩
      · decide +kernel
      have g1 := gx.2 s0 (by simp)
      have g2 := gx.2 e0 (by simp)
      refine ⟨.ref p, rfl, p, _, 1, .int s0, rfl, rfl, SqT.of hp, rfl, s0, rfl, lg _ g1.1 g1.2, .ref p, rfl, p, _, 2, .int e0, rfl, rfl, SqT.of hp, rfl, e0, rfl, lg _ g2.1 g2.2, by show 3 ≤ sizeLine; decide, fun A nA => ?_⟩
      have sA := same_new (o := .lst [.str (Str.ofString "unsure"), .str (Str.ofString (toString s0)), .str (Str.ofString (toString e0))]) nA
      refine ⟨by show 1 ≤ sizeLine; decide, fun C1 n1 => ?_⟩
      have s1 := sA.trans (same_new (o := .lst [.str (Str.ofString "faults")]) n1)
      obtain ⟨H2, hH2⟩ : ∃ H2, H2 = L2.upd (L2.upd H A (.lst [.str (Str.ofString "unsure"), .str (Str.ofString (toString s0)), .str (Str.ofString (toString e0))])) C1 (.lst [.str (Str.ofString "faults")]) := ⟨_, rfl⟩
      have hA2 : H2 A = some (.lst [.str (Str.ofString "unsure"), .str (Str.ofString (toString s0)), .str (Str.ofString (toString e0))]) := by rw [hH2]; exact same_new n1 _ _ upd_same
      have hC2 : H2 C1 = some (.lst [.str (Str.ofString "faults")]) := by rw [hH2]; exact upd_same
      rw [← hH2] at s1 ⊢
      have hr2 := s1 _ _ hr
      refine ⟨.ref p, rfl, p, _, 3, .ref r, rfl, rfl, SqT.of (s1 _ _ hp), rfl, r, rfl, ⟨_, SqT.of hr2⟩, fun C2 n2 => ?_⟩
      refine lc_it walk_tup (fun j H' => Same H2 H' ∧ H' C2 = some (.lst ((y.take j).map fun x => V.str (tx (numT x))))) ⟨same_new n2, upd_same⟩ (fun j H' _ h => SqT.of (h.1 _ _ hr2)) ?_ ?_
      · rintro j z H5 H6 hj ⟨s5, h2⟩ ⟨rfl, hy⟩
        unfold iv at hj hy
        rw [List.length_map] at hj
        rw [List.getElem?_map, List.getElem?_eq_getElem hj] at hy
        cases hy
        have gz := gy.2 _ (List.getElem_mem hj)
        refine ⟨rfl, ?_⟩
        dsimp only [tYes]
        rw [if_pos rfl]
        refine ⟨.int y[j], rfl, y[j], rfl, lg _ gz.1 gz.2, _, h2, Nat.lt_of_le_of_lt (show _ ≤ 100 by rw [List.length_map, List.length_take]; have := gy.1; omega) (by decide), same_upd' s5 n2, ?_⟩
        rw [upd_same, List.take_add_one, List.getElem?_eq_getElem hj, List.map_append, str_num gz.1]
        rfl
      rintro H5 ⟨s5, h2⟩
      unfold iv at h2
      rw [List.length_map, List.take_length] at h2
      refine ⟨C1, C2, _, _, rfl, rfl, s5 _ _ hC2, h2, Nat.le_trans (show _ ≤ 100 by rw [List.length_map]; have := gy.1; show 1 + y.length ≤ 100; omega) (by decide), fun C3 n3 => ?_⟩
      have s3c := same_new (o := .lst ([V.str (Str.ofString "faults")] ++ y.map fun x => V.str (tx (numT x)))) n3
      refine ⟨by show 2 ≤ sizeLine; decide, fun G nG => ?_⟩
      have sG := same_new (o := .lst [.ref A, .ref C3]) nG
      have nG' := none_of (s1.trans (s5.trans s3c)) nG
      have n3' := none_of (s1.trans s5) n3
      refine q _ G (s1.trans (s5.trans (s3c.trans sG))) fun b hb => ⟨fun z => hb (by rw [← z]; exact nG'), [A, C3], upd_same, rfl, fun i ws e => ?_⟩
      match i with
      | 0 =>
        cases e
        refine ⟨A, rfl, fun z => hb (by rw [← z]; exact nA), ?_⟩
        rw [(s5.trans (s3c.trans sG)) _ _ hA2, wsV_nrow, str_num g1.1, str_num g2.1]
        rfl
      | 1 =>
        cases e
        refine ⟨C3, rfl, fun z => hb (by rw [← z]; exact n3'), ?_⟩
        rw [sG _ _ (upd_same : (L2.upd H5 C3 (.lst ([V.str (Str.ofString "faults")] ++ y.map fun x => V.str (tx (numT x))))) C3 = _), wsV_nrow]
        rfl
      | i + 2 => cases e
end
end Fd

set_option autoImplicit false
set_option Elab.async false
set_option linter.all false
set_option maxRecDepth 100000
set_option maxHeartbeats 4000000
namespace Fd
open PySem PySem.Spec PyProof.Rows L2 RZ
abbrev sLp : Stmt := topL 30
theorem scLp : FnScope ["box", "many", "rows", "s", "e", "k", "j"] ["box", "many"] (defScope sLp) := ⟨rfl, rfl, rfl, by decide +kernel, rfl, by decide +kernel, by decide +kernel⟩
abbrev sLpN : List Str := ["box", "many", "rows", "s", "e", "k", "j"]
def PaW (many : Nat) : Pap → Prop
  | .sure R => ∀ row ∈ R, row.length = many
  | .uns _ b => b.length = many
section
variable {P : Program} {w : World} {K : PySem.W.Frag} {mg : Str → Option Value} {base : Heap}
def spLp : Sp := fun vs H Q _ => ∃ (b D : Addr) (ds : List Int) (n many : Nat), vs = [.ref b, .int (many : Int)] ∧ BoxAt H b D ds n ∧ many ≤ 6 ∧ ∀ H' n' p pa, SmB b H H' → BoxAt H' b D ds n' → PaAt H' p pa → PaG pa → PaW many pa → Q (.ref p) H'
theorem ok_lp {f fD fNb : Addr} {fd fdD fdNb : FuncData} (F : Fun K "_law_paper" "_law_paper" sLp f fd)
    (FD : Fun K "_law_draw" "_law_draw" sDraw fD fdD) (GD : FnOk P w K mg base CX0 1 fD fdD ["box", "many"] spDraw) (bD : Binds K fdD ["box", "many"] []) (gD : mg "_law_draw" = some (.ref fD))
    (FNb : Fun K "_law_number" "_law_number" sNb fNb fdNb) (GNb : FnOk P w K mg base CX0 3 fNb fdNb ["box", "most"] spNb) (bNb : Binds K fdNb ["box", "most"] []) (gNb : mg "_law_number" = some (.ref fNb))
    (mR : mg "range" = none) (mT : mg "tuple" = none) (mX : mg "max" = none) : FnOk P w K mg base CX0 4 f fd ["box", "many"] spLp := by
  refine F.ok scLp (fun vs H Q E h => ?_) (fun cdv A outer s H vs Q E hr h => ?_)
  · obtain ⟨b, D, ds, n, many, rfl, _⟩ := h
    rfl
  · obtain ⟨b, D, ds, n, many, rfl, hB, m6, q⟩ := h
    have hr1 : Room 1 _ := hr.mono (by decide)
    refine ⟨_, pss_cons (ps_if (pt_cmpR op_eq (pe_call GD hr1 (by rfl) gD FD.kp bD .nil pass0 (pa_cons (pv 0) (pa_cons (pe_int) pa_nil))) (pe_int) (nomark _))
        (pss_cons (ps_setLc (i := 2) (own := [("j", 6)]) (g := gName 6) (tt := tYes) (te := tThen (tLc (iRng1 (tCons (tVar 1) tNil)) (gName 5) (tYes) (tCall spNb [] E0 (tCons (tVar 0) (tCons (tC (.int 999999)) tNil))) [5]) (kTup K)) rfl scLp.nd rfl rfl (sw_true rfl rfl rfl rfl) (pi_range1 (by rfl) mR (pa_cons (pe_call GD hr1 (by rfl) gD FD.kp bD .nil pass0 (pa_cons (pv 0) (pa_cons (pe_int) pa_nil))) pa_nil))
            (blkOk_by (N := sLpN) (sc := defScope sLp) (by decide +kernel))
            (fun _ _ _ _ _ => pg_name (i := 6) scLp.nd rfl (.inl rfl)) (fun _ _ _ _ _ => pts_nil)
            (fun _ _ _ _ _ => pe_tupleOf (by rfl) mT (pe_lc (own := [("k", 5)]) (g := gName 5) (tt := tYes) (te := tCall spNb [] E0 (tCons (tVar 0) (tCons (tC (.int 999999)) tNil))) rfl scLp.nd (pi_range1 (by rfl) mR (pa_cons (pv 1) pa_nil))
            (blkOk_by (N := sLpN) (sc := (⟨.function, [(".0", .local), ("j", .local), ("tuple", .globalImplicit), ("range", .globalImplicit), ("box", .cell), ("many", .cell)], false, false, []⟩ : Scope)) (by decide +kernel))
            (fun _ _ _ _ _ => pg_name (i := 5) scLp.nd rfl (.inl rfl)) (fun _ _ _ _ _ => pts_nil)
            (fun _ _ _ _ _ => pe_call GNb hr (by rfl) gNb FNb.kp bNb .nil pass0 (pa_cons (pv 0) (pa_cons (pe_int) pa_nil))))))
        (pss_one (ps_ret (pe_tup (pa_cons (pe_str) (pa_cons (pe_tupleOf (by rfl) mT (pv 2)) pa_nil)))))) pss_nil)
      (pss_cons (ps_set (i := 3) scLp.nd rfl (.inl rfl) (pe_call GNb hr (by rfl) gNb FNb.kp bNb .nil pass0 (pa_cons (pv 0) (pa_cons (pe_int) pa_nil))))
      (pss_cons (ps_set (i := 4) scLp.nd rfl (.inl rfl) (pe_callB (call_max2 rfl) (by rfl) mX (by decide +kernel) (pa_cons (pv 3) (pa_cons (pe_call GNb hr (by rfl) gNb FNb.kp bNb .nil pass0 (pa_cons (pv 0) (pa_cons (pe_int) pa_nil))) pa_nil))))
      (pss_one (ps_ret (pe_tup (pa_cons (pe_str) (pa_cons (pv 3) (pa_cons (pv 4) (pa_cons (pe_tupleOf (by rfl) mT (pe_lc (own := [("k", 5)]) (g := gName 5) (tt := tYes) (te := tCall spNb [] E0 (tCons (tVar 0) (tCons (tC (.int 20)) tNil))) rfl scLp.nd (pi_range1 (by rfl) mR (pa_cons (pv 1) pa_nil))
            (blkOk_by (N := sLpN) (sc := defScope sLp) (by decide +kernel))
            (fun _ _ _ _ _ => pg_name (i := 5) scLp.nd rfl (.inl rfl)) (fun _ _ _ _ _ => pts_nil)
            (fun _ _ _ _ _ => pe_call GNb hr (by rfl) gNb FNb.kp bNb .nil pass0 (pa_cons (pv 0) (pa_cons (pe_int) pa_nil))))) pa_nil))))))))), ?_⟩
    have big : 2000000 ≤ sizeLine := by decide
    refine ⟨.ref b, rfl, b, D, ds, n, 2, rfl, hB, by decide, fun d d0 d1 => ⟨rfl, _, rfl, ite2 (fun _ => ?_) (fun _ => ?_)⟩⟩
    · have hB1 := hB.bump
      refine ⟨.ref b, rfl, b, D, ds, n + 1, 9, rfl, hB1, by decide, fun m m0 m9 => ⟨m, rfl, by omega, by omega, fun R nR => ?_⟩⟩
      have hB2 := hB1.bump
      obtain ⟨H2, hH2⟩ : ∃ H2, H2 = L2.upd (L2.upd H b (.lst [.ref D, .int (n + 1 : Nat)])) b (.lst [.ref D, .int (n + 1 + 1 : Nat)]) := ⟨_, rfl⟩
      have s2 : SmB b H H2 := by rw [hH2]; exact SmB.upd.trans SmB.upd
      rw [← hH2] at hB2 nR ⊢
      have nRb : R ≠ b := fun z => by rw [z, hB2.1] at nR; cases nR
      have nRD : R ≠ D := fun z => by rw [z, hB2.2] at nR; cases nR
      refine lc_it (walk_range (lo := 0) (n := m.toNat)) (fun j H' => SmB b H2 H' ∧ ∃ n' Rw, BoxAt H' b D ds n' ∧ TdAt H' R Rw ∧ Rw.length = j ∧ ∀ row ∈ Rw, okN row ∧ row.length = many)
        ⟨(SmB.refl b _).newAt nR, n + 1 + 1, [], ⟨by rw [upd_ne nRb.symm]; exact hB2.1, by rw [upd_ne nRD.symm]; exact hB2.2⟩, TdAt.nil upd_same, rfl, fun x h => (nomatch h)⟩ (fun _ _ _ _ => trivial) ?_ ?_
      · rintro j x H3 H4 hj ⟨s3, n3, Rw, hB3, hR3, lR, gR⟩ ⟨rfl, rfl⟩
        refine ⟨rfl, ?_⟩
        dsimp only [tYes]
        rw [if_pos rfl]
        refine ⟨.int (many : Int), rfl, (many : Int), rfl, by omega, by omega, fun C nC => ?_⟩
        have nCb : C ≠ b := fun z => by rw [z, (hB3).1] at nC; cases nC
        have nCD : C ≠ D := fun z => by rw [z, (hB3).2] at nC; cases nC
        refine lc_it (walk_range (lo := 0) (n := ((many : Nat) : Int).toNat)) (fun k H' => SmB b H4 H' ∧ ∃ n' xs, BoxAt H' b D ds n' ∧ H' C = some (.lst (iv xs)) ∧ xs.length = k ∧ ∀ x ∈ xs, 0 ≤ x ∧ x ≤ 999999)
          ⟨(SmB.refl b _).newAt nC, n3, [], ⟨by rw [upd_ne nCb.symm]; exact (hB3).1, by rw [upd_ne nCD.symm]; exact (hB3).2⟩, upd_same, rfl, fun x h => (nomatch h)⟩ (fun _ _ _ _ => trivial) ?_ ?_
        · rintro k x Hx Hy hk ⟨sx, n', xs, hBx, hCx, lx, gx⟩ ⟨rfl, rfl⟩
          rw [Int.toNat_natCast] at hk
          refine ⟨rfl, ?_⟩
          dsimp only [tYes]
          rw [if_pos rfl]
          refine ⟨.ref b, rfl, b, D, ds, n', 999999, rfl, hBx, by decide, by decide, fun Hz nz c sz hBz c0 c1 => ?_⟩
          have hCz := sz _ _ nCb hCx
          refine ⟨_, hCz, Nat.lt_of_le_of_lt (show _ ≤ 100 by unfold iv; rw [List.length_map]; omega) (by decide), (sx.trans sz).newAt nC, nz, xs ++ [c], ⟨by rw [upd_ne nCb.symm]; exact hBz.1, by rw [upd_ne nCD.symm]; exact hBz.2⟩, ?_, by rw [List.length_append, lx]; rfl, fun y hy => ?_⟩
          · rw [upd_same]
            unfold iv
            rw [List.map_append]
            rfl
          · rcases List.mem_append.mp hy with z | z
            · exact gx y z
            · rw [List.mem_singleton.mp z]; exact ⟨c0, c1⟩
        rintro Hx ⟨sx, n', xs, hBx, hCx, lx, gx⟩
        rw [Int.toNat_natCast] at lx
        refine .inl ⟨C, _, rfl, SqL.of hCx, fun t nt => ?_⟩
        have st := same_new (o := .tup (iv xs)) nt
        have hRx : TdAt Hx R Rw := by
          obtain ⟨rs, u1, u2, u3⟩ := hR3
          refine ⟨rs, sx _ _ nRb u1, u2, fun i x e => ?_⟩
          obtain ⟨r, e1, e2⟩ := u3 i x e
          exact ⟨r, e1, sx _ _ (fun z => by rw [z, hB3.1] at e2; cases e2) e2⟩
        have hRt := hRx.lt (LT.of st)
        obtain ⟨rs, u1, u2, u3⟩ := id hRt
        have hBt := hBx.same st
        refine ⟨_, u1, Nat.lt_of_le_of_lt (show _ ≤ 100 by rw [List.length_map]; omega) (by decide), (s3.trans (sx.trans (SmB.of st))).newAt nR, n', Rw ++ [xs], ⟨by rw [upd_ne nRb.symm]; exact hBt.1, by rw [upd_ne nRD.symm]; exact hBt.2⟩, hRt.snoc u1 upd_same, by rw [List.length_append, lR]; rfl, fun row hr => ?_⟩
        rcases List.mem_append.mp hr with z | z
        · exact gR row z
        · rw [List.mem_singleton.mp z]
          exact ⟨⟨by omega, gx⟩, lx⟩
      rintro H3 ⟨s3, n3, Rw, hB3, ⟨rs, u1, u2, u3⟩, lR, gR⟩
      refine st_go (σ' := [some (.ref b), some (.int (many : Int)), some (.ref R), none, none, none, none]) rfl ?_
      refine ⟨.ref R, rfl, .inl ⟨R, _, rfl, SqL.of u1, fun t nt => ⟨by show 2 ≤ sizeLine; decide, fun p np => ?_⟩⟩⟩
      have st := same_new (o := .tup (rs.map V.ref)) nt
      have sp := same_new (o := .tup [.str (Str.ofString "sure"), .ref t]) np
      have sF := st.trans sp
      refine q _ n3 p (.sure Rw) (s2.trans (s3.trans (SmB.of sF))) (hB3.same sF) ⟨t, upd_same, rs, sp _ _ upd_same, u2, fun i x e => ?_⟩ ⟨fun R' e => ?_, fun a c e => nomatch e⟩ (fun row hr => (gR row hr).2)
      · obtain ⟨r, e1, e2⟩ := u3 i x e
        exact ⟨r, e1, sF _ _ e2⟩
      · cases e
        exact ⟨by omega, fun row hr => (gR row hr).1⟩
    · have hB1 := hB.bump
      refine ⟨.ref b, rfl, b, D, ds, n + 1, 999999, rfl, hB1, by decide, by decide, fun H2 n2 s s2 hB2 s0 s9 => ?_⟩
      refine st_go (σ' := [some (.ref b), some (.int (many : Int)), none, some (.int s), none, none, none]) rfl ?_
      refine ⟨.int s, rfl, .ref b, rfl, b, D, ds, n2, 999999, rfl, hB2, by decide, by decide, fun H3 n3 e s3 hB3 e0 e9 => ⟨s, e, rfl, ?_⟩⟩
      obtain ⟨mx, hmx⟩ : ∃ mx : Int, mx = if e > s then e else s := ⟨_, rfl⟩
      have mx0 : 0 ≤ mx ∧ mx ≤ 999999 := by rw [hmx]; split <;> omega
      rw [← hmx]
      refine st_go (σ' := [some (.ref b), some (.int (many : Int)), none, some (.int s), some (.int mx), none, none]) rfl ?_
      refine ⟨.int s, rfl, .int mx, rfl, ?_⟩
      refine ⟨.int (many : Int), rfl, (many : Int), rfl, by omega, by omega, fun C nC => ?_⟩
      have nCb : C ≠ b := fun z => by rw [z, (hB3).1] at nC; cases nC
      have nCD : C ≠ D := fun z => by rw [z, (hB3).2] at nC; cases nC
      refine lc_it (walk_range (lo := 0) (n := ((many : Nat) : Int).toNat)) (fun k H' => SmB b H3 H' ∧ ∃ n' xs, BoxAt H' b D ds n' ∧ H' C = some (.lst (iv xs)) ∧ xs.length = k ∧ ∀ x ∈ xs, 0 ≤ x ∧ x ≤ 20)
        ⟨(SmB.refl b _).newAt nC, n3, [], ⟨by rw [upd_ne nCb.symm]; exact (hB3).1, by rw [upd_ne nCD.symm]; exact (hB3).2⟩, upd_same, rfl, fun x h => (nomatch h)⟩ (fun _ _ _ _ => trivial) ?_ ?_
      · rintro k x Hx Hy hk ⟨sx, n', xs, hBx, hCx, lx, gx⟩ ⟨rfl, rfl⟩
        rw [Int.toNat_natCast] at hk
        refine ⟨rfl, ?_⟩
        dsimp only [tYes]
        rw [if_pos rfl]
        refine ⟨.ref b, rfl, b, D, ds, n', 20, rfl, hBx, by decide, by decide, fun Hz nz c sz hBz c0 c1 => ?_⟩
        have hCz := sz _ _ nCb hCx
        refine ⟨_, hCz, Nat.lt_of_le_of_lt (show _ ≤ 100 by unfold iv; rw [List.length_map]; omega) (by decide), (sx.trans sz).newAt nC, nz, xs ++ [c], ⟨by rw [upd_ne nCb.symm]; exact hBz.1, by rw [upd_ne nCD.symm]; exact hBz.2⟩, ?_, by rw [List.length_append, lx]; rfl, fun y hy => ?_⟩
        · rw [upd_same]
          unfold iv
          rw [List.map_append]
          rfl
        · rcases List.mem_append.mp hy with z | z
          · exact gx y z
          · rw [List.mem_singleton.mp z]; exact ⟨c0, c1⟩
      rintro Hx ⟨sx, n', xs, hBx, hCx, lx, gx⟩
      rw [Int.toNat_natCast] at lx
      refine .inl ⟨C, _, rfl, SqL.of hCx, fun t nt => ⟨by show 4 ≤ sizeLine; decide, fun p np => ?_⟩⟩
      have st := same_new (o := .tup (iv xs)) nt
      have sp := same_new (o := .tup [.str (Str.ofString "unsure"), .int s, .int mx, .ref t]) np
      have sF := st.trans sp
      refine q _ n' p (.uns [s, mx] xs) ((SmB.upd.trans s2).trans (s3.trans (sx.trans (SmB.of sF)))) (hBx.same sF) ⟨t, upd_same, sp _ _ upd_same⟩ ⟨fun R e => (nomatch e), fun a c e => ?_⟩ lx
      cases e
      refine ⟨rfl, ⟨by show 2 ≤ 8; decide, fun y hy => ?_⟩, ⟨by omega, fun y hy => by have := gx y hy; omega⟩⟩
      rcases List.mem_cons.mp hy with z | z
      · rw [z]; exact ⟨s0, s9⟩
      · rw [List.mem_singleton.mp z]; exact mx0
end
end Fd

set_option autoImplicit false
set_option Elab.async false
set_option linter.all false
set_option maxRecDepth 100000
set_option maxHeartbeats 4000000
namespace Fd
open PySem PySem.Spec PyProof.Rows L2 RZ
abbrev sSp : Stmt := topS 17
theorem scSp : FnScope ["paper", "rows", "prices", "word", "row"] ["paper"] (defScope sSp) := ⟨rfl, rfl, rfl, by decide +kernel, rfl, by decide +kernel, by decide +kernel⟩
abbrev sSpN : List Str := ["paper", "rows", "prices", "word", "row"]
def rJn (K : PySem.W.Frag) : V → List V → Hp → VK → Prop := fun x xs H Q => ∃ a p, ∃ ys : List Str, x = .str a ∧ xs = [.ref p] ∧ (SqL K H p (ys.map V.str) ∨ SqT K H p (ys.map V.str)) ∧
  (ys.map (·.length)).sum + ys.length * a.length ≤ 16777216 ∧ Q (.str (Txt.join a ys)) H
def rStrA : List V → Hp → VK → Prop := fun xs H Q => (∃ i : Int, xs = [.int i] ∧ i.natAbs.log2 < 1920 ∧ Q (.str (toString i)) H) ∨ ∃ a : Str, xs = [.str a] ∧ Q (.str a) H
theorem call_strA {X : L2.Cx} : CallR X (.type "str") rStrA := fun pins s σ H xs us Q I rs h => by
  rcases h with h | h
  · exact call_str_int pins s σ H xs us Q I rs h
  · exact SkE.call_str_str pins s σ H xs us Q I rs h
def krP : Pap → List (Nat × List Int)
  | .sure R => (0, []) :: R.map fun row => (2, row)
  | .uns a b => [(1, a), (3, b)]
theorem linesP_kr (pa : Pap) : linesP pa = (krP pa).map fun z => nrow z.1 z.2 := by
  cases pa with
  | sure R =>
    show _ = nrow 0 [] :: (R.map fun row => (2, row)).map fun z : Nat × List Int => nrow z.1 z.2
    rw [List.map_map]
    rfl
  | uns a b => rfl
def jn (ws : List (List Nat)) : List Nat := TL.joinL [32] ws
theorem join_sp (ws : List (List Nat)) : Txt.join (Str.ofString " ") (ws.map tx) = tx (jn ws) := by
  rw [TL.join_eq]
  refine tx_eq ?_
  have h := TL.tl_join (Str.ofString " ") (ws.map tx)
  rw [List.map_map] at h
  have e : ws.map (TL.tl ∘ tx) = ws := List.map_id _
  rw [e] at h
  have e2 : TL.tl (Str.ofString " ") = [32] := by decide +kernel
  rw [e2] at h
  exact h
theorem jn_len {c : Nat} : ∀ ws : List (List Nat), (∀ w ∈ ws, w.length ≤ c) → (jn ws).length ≤ (c + 1) * ws.length := by
  intro ws
  induction ws with
  | nil => intro _; exact Nat.zero_le _
  | cons w ws ih =>
    intro h
    have a := ih fun x hx => h x (by simp [hx])
    have b := h w (by simp)
    rw [List.length_cons, Nat.mul_succ]
    cases ws with
    | nil => show w.length ≤ _; omega
    | cons x xs =>
      show (w ++ ([32] ++ jn (x :: xs))).length ≤ _
      rw [List.length_append, List.length_append, List.length_singleton]
      omega
theorem kindT_len : ∀ k : Nat, (kindT k).length ≤ 6
  | 0 => by decide
  | 1 => by decide
  | 2 => by decide
  | _ + 3 => Nat.le_refl 6
theorem numT_len {x : Int} (h0 : 0 ≤ x) (h : x ≤ 999999) : (numT x).length ≤ 6 := TL.numL_len (by decide) (by omega)
theorem nrow_len {k : Nat} {row : List Int} (h : okN row) : (nrow k row).length ≤ 9 ∧ ∀ w ∈ nrow k row, w.length ≤ 6 := by
  refine ⟨by show (row.map numT).length + 1 ≤ 9; rw [List.length_map]; have := h.1; omega, fun w hw => ?_⟩
  rcases List.mem_cons.mp hw with z | z
  · rw [z]; exact kindT_len k
  · obtain ⟨x, hx, rfl⟩ := List.mem_map.mp z
    exact numT_len (h.2 x hx).1 (h.2 x hx).2
theorem krP_ok {pa : Pap} (g : PaG pa) : (krP pa).length ≤ 10 ∧ ∀ z ∈ krP pa, okN z.2 := by
  cases pa with
  | sure R =>
    obtain ⟨a, b⟩ := g.s R rfl
    refine ⟨by show (R.map _).length + 1 ≤ 10; rw [List.length_map]; omega, fun z hz => ?_⟩
    rcases List.mem_cons.mp hz with e | e
    · rw [e]; exact ⟨Nat.zero_le _, fun x h => (nomatch h)⟩
    · obtain ⟨row, hr, rfl⟩ := List.mem_map.mp e
      exact b row hr
  | uns a b =>
    obtain ⟨_, u, v⟩ := g.u a b rfl
    refine ⟨by show 2 ≤ 10; decide, fun z hz => ?_⟩
    rcases List.mem_cons.mp hz with e | e
    · rw [e]; exact u
    · rw [List.mem_singleton.mp e]; exact v
def kV2 (z : Nat × List Int) : List V := .str (kindS z.1) :: iv z.2
def lnZ (z : Nat × List Int) : List Nat := jn (nrow z.1 z.2) ++ [10]
theorem lnZ_len {k : Nat × List Int} (h : okN k.2) : (lnZ k).length ≤ 64 := by
  obtain ⟨a, b⟩ := nrow_len (k := k.1) h
  have := jn_len _ b
  unfold lnZ
  rw [List.length_append, List.length_singleton]
  have : 7 * (nrow k.1 k.2).length ≤ 63 := by omega
  omega
theorem sum_le {α : Type} {c : Nat} (f : α → Nat) : ∀ l : List α, (∀ x ∈ l, f x ≤ c) → (l.map f).sum ≤ c * l.length
  | [], _ => Nat.zero_le _
  | x :: l, h => by
    have a := h x (by simp)
    have b := sum_le f l fun y hy => h y (by simp [hy])
    rw [List.map_cons, List.sum_cons, List.length_cons, Nat.mul_succ]
    omega
theorem rStrA_at {z : Nat × List Int} (ok : okN z.2) {j : Nat} {y : V} (e : (kV2 z)[j]? = some y) {H : Hp} {Q : VK} (q : ∀ t, (nrow z.1 z.2)[j]? = some t → Q (.str (tx t)) H) : rStrA [y] H Q := by
  cases j with
  | zero =>
    cases e
    refine .inr ⟨_, rfl, ?_⟩
    rw [kindS_tx]
    exact q _ rfl
  | succ j =>
    have e : (iv z.2)[j]? = some y := e
    unfold iv at e
    rw [List.getElem?_map] at e
    cases er : z.2[j]? with
    | none => rw [er] at e; cases e
    | some x =>
      rw [er] at e
      cases e
      have hm := ok.2 x (List.mem_of_getElem? er)
      have lg : x.natAbs.log2 < 1920 := by
        by_cases h4 : x.natAbs = 0
        · rw [h4]; decide
        · exact (Nat.log2_lt h4).mpr (Nat.lt_of_lt_of_le (show x.natAbs < 2 ^ 20 by omega) (Nat.pow_le_pow_right (by decide) (by decide)))
      refine .inl ⟨x, rfl, lg, ?_⟩
      have h := q (numT x) (by show (z.2.map numT)[j]? = _; rw [List.getElem?_map, er]; rfl)
      have e2 := str_num hm.1
      rw [← e2] at h
      exact h
section
variable {P : Program} {w : World} {K : PySem.W.Frag} {mg : Str → Option Value} {base : Heap}
def spSp : Sp := fun vs H Q _ => ∃ (p : Addr) (pa : Pap), vs = [.ref p] ∧ PaAt H p pa ∧ PaG pa ∧ (∀ R, pa = .sure R → ∀ row ∈ R, row ≠ []) ∧ (∀ a b, pa = .uns a b → b ≠ []) ∧ ∀ H', Same H H' → Q (.str (tx (txL ((linesP pa).map jn)))) H'
theorem ok_sp {f : Addr} {fd : FuncData} (F : Fun K "shown_paper" "shown_paper" sSp f fd)
    (m_str : mg "str" = none) : FnOk P w K mg base CX0 1 f fd ["paper"] spSp := by
  refine F.ok scSp (fun vs H Q E h => ?_) (fun cdv A outer s H vs Q E hr h => ?_)
  · obtain ⟨p, pa, rfl, h⟩ := h
    rfl
  · obtain ⟨p, pa, rfl, hP, hg, ne1, ne2, q⟩ := h
    refine ⟨_, pss_cons (ps_if (pt_cmpR op_eq (pe_ix ix_tup (pv 0) (pe_int) (fun _ _ => rfl)) (pe_str) (nomark _))
        (pss_one (ps_set (i := 1) scSp.nd rfl (.inl rfl) (pe_op op_cat (pe_lst (pa_cons (pe_tup (pa_cons (pe_str) pa_nil)) pa_nil)) (pe_lc (own := [("prices", 2)]) (g := gName 2) (tt := tYes) (te := tOp (rCatA K) (tTup (tCons (tC (.str "prices")) tNil)) (tVar 2)) rfl scSp.nd (pi_tup (pe_ix ix_tup (pv 0) (pe_int) (fun _ _ => rfl)))
            (blkOk_by (N := sSpN) (sc := defScope sSp) (by decide +kernel))
            (fun _ _ _ _ _ => pg_name (i := 2) scSp.nd rfl (.inl rfl)) (fun _ _ _ _ _ => pts_nil)
            (fun _ _ _ _ _ => pe_op op_catA (pe_tup (pa_cons (pe_str) pa_nil)) (pv 2)))))) 
        (pss_one (ps_set (i := 1) scSp.nd rfl (.inl rfl) (pe_lst (pa_cons (pe_slice sl_tupA (pv 0) po_none (po_some (pe_int))) (pa_cons (pe_op op_catA (pe_tup (pa_cons (pe_str) pa_nil)) (pe_ix ix_tup (pv 0) (pe_int) (fun _ _ => rfl))) pa_nil))))))
      (pss_one (ps_ret (pe_join (pe_str) (pe_lc (own := [("row", 4)]) (g := gName 4) (tt := tYes) (te := tOp rStr (tM1 (rJn K) (tC (.str " ")) (tLc (iTup K (tVar 4)) (gName 3) tYes (tCB rStrA (tCons (tVar 3) tNil)) [3])) (tC (.str "\n"))) rfl scSp.nd (pi_list (pv 1))
            (blkOk_by (N := sSpN) (sc := defScope sSp) (by decide +kernel))
            (fun _ _ _ _ _ => pg_name (i := 4) scSp.nd rfl (.inl rfl)) (fun _ _ _ _ _ => pts_nil)
            (fun _ _ _ _ _ => pe_op op_add_str (pe_join (pe_str) (pe_lc (own := [("word", 3)]) (g := gName 3) (tt := tYes) (te := tCB rStrA (tCons (tVar 3) tNil)) rfl scSp.nd (pi_tup (pv 4))
            (blkOk_by (N := sSpN) (sc := (⟨.function, [(".0", .local), ("row", .local)], false, false, []⟩ : Scope)) (by decide +kernel))
            (fun _ _ _ _ _ => pg_name (i := 3) scSp.nd rfl (.inl rfl)) (fun _ _ _ _ _ => pts_nil)
            (fun _ _ _ _ _ => pe_callTy call_strA (by rfl) m_str (by decide +kernel) (pa_cons (pv 3) pa_nil)))) (pe_str)))))), ?_⟩
    have big : 2000000 ≤ sizeLine := by decide
    have lg : ∀ x : Int, 0 ≤ x → x ≤ 999999 → x.natAbs.log2 < 1920 := fun x h1 h2 => by
      by_cases h4 : x.natAbs = 0
      · rw [h4]; decide
      · exact (Nat.log2_lt h4).mpr (Nat.lt_of_lt_of_le (show x.natAbs < 2 ^ 20 by omega) (Nat.pow_le_pow_right (by decide) (by decide)))
    obtain ⟨lk, gk⟩ := krP_ok hg
    rw [linesP_kr] at q
    obtain ⟨kr, hkr⟩ : ∃ kr, kr = krP pa := ⟨_, rfl⟩
    rw [← hkr] at q lk gk
    cases pa with
    | sure R =>
      obtain ⟨a, hp, rs, ha, lrs, hr⟩ := hP
      have hne := ne1 R rfl
      have hkR : kr = (0, []) :: R.map fun row => (2, row) := hkr
      refine ⟨.ref p, rfl, p, _, 0, .str (Str.ofString "sure"), rfl, rfl, SqT.of hp, rfl, rfl, _, rfl, ite2 (fun _ => ?_) (fun z => absurd (decide_eq_true rfl) z)⟩
      refine ⟨by show 1 ≤ sizeLine; decide, fun A nA => ⟨by show 1 ≤ sizeLine; decide, fun B nB => ?_⟩⟩
      have sA := same_new (o := .tup [.str (Str.ofString "sure")]) nA
      have sB := sA.trans (same_new (o := .lst [.ref A]) nB)
      obtain ⟨H2, hH2⟩ : ∃ H2, H2 = L2.upd (L2.upd H A (.tup [.str (Str.ofString "sure")])) B (.lst [.ref A]) := ⟨_, rfl⟩
      have hB2 : H2 B = some (.lst [.ref A]) := by rw [hH2]; exact upd_same
      have hA2 : H2 A = some (.tup [.str (Str.ofString "sure")]) := by rw [hH2]; exact same_new nB _ _ upd_same
      rw [← hH2] at sB ⊢
      refine ⟨.ref p, rfl, p, _, 1, .ref a, rfl, rfl, SqT.of (sB _ _ hp), rfl, a, rfl, ⟨_, SqT.of (sB _ _ ha)⟩, fun D nD => ?_⟩
      refine lc_it walk_tup (fun i H' => Same H2 H' ∧ ∃ ds : List Addr, H' D = some (.lst (ds.map V.ref)) ∧ ds.length = i ∧ ∀ (j : Nat) (row : List Int), j < i → R[j]? = some row → ∃ r, ds[j]? = some r ∧ H' r = some (.tup (kV2 (2, row))))
        ⟨same_new nD, [], upd_same, rfl, fun j row h => absurd h (Nat.not_lt_zero j)⟩ (fun i H' _ h => SqT.of (h.1 _ _ (sB _ _ ha))) ?_ ?_
      · rintro i x H3 H4 hi ⟨s3, ds, hD, lds, hds⟩ ⟨rfl, hx⟩
        rw [List.length_map, lrs] at hi
        obtain ⟨r0, e1, e2⟩ := hr i _ (List.getElem?_eq_getElem hi)
        rw [List.getElem?_map, e1] at hx
        have hx : some (V.ref r0) = some x := hx
        cases hx
        have e3 := (sB.trans s3) _ _ e2
        have nr : iv R[i] ≠ [] := fun z => hne _ (List.getElem_mem hi) (List.map_eq_nil_iff.mp z)
        refine ⟨rfl, ?_⟩
        dsimp only [tYes]
        rw [if_pos rfl]
        refine ⟨by show 1 ≤ sizeLine; decide, fun C1 n1 => ?_⟩
        have s1 := same_new (o := .tup [.str (Str.ofString "prices")]) n1
        have okr : (R[i]).length ≤ 8 := ((hg.s R rfl).2 _ (List.getElem_mem hi)).1
        refine ⟨.ref r0, rfl, C1, r0, _, _, rfl, rfl, SqT.of upd_same, SqT.of (s1 _ _ e3), Nat.le_trans (show _ ≤ 100 by unfold iv; rw [List.length_map]; show 1 + _ ≤ 100; omega) (by decide), fun z => absurd z (by simp), fun _ z => absurd z nr, fun _ _ C3 n3 => ?_⟩
        have s3c := s1.trans (same_new (o := .tup ([V.str (Str.ofString "prices")] ++ iv R[i])) n3)
        refine ⟨_, s3c _ _ hD, Nat.lt_of_le_of_lt (show _ ≤ 100 by rw [List.length_map]; have := (hg.s R rfl).1; omega) (by decide), same_upd' (s3.trans s3c) nD, ds ++ [C3], by rw [upd_same, List.map_append]; rfl, by rw [List.length_append, lds]; rfl, fun j row' hj e => ?_⟩
        have hD4 := s3c _ _ hD
        by_cases c : j < i
        · obtain ⟨r, f1, f4⟩ := hds j row' c e
          have f5 := s3c _ _ f4
          exact ⟨r, by rw [List.getElem?_append_left (by omega)]; exact f1, by rw [upd_ne (fun z => by rw [z, hD4] at f5; cases f5)]; exact f5⟩
        · have : j = i := by omega
          subst this
          rw [List.getElem?_eq_getElem hi] at e
          cases e
          refine ⟨C3, by rw [List.getElem?_append_right (by omega), lds, Nat.sub_self]; rfl, ?_⟩
          rw [upd_ne (fun z => by rw [z] at hD4; rw [upd_same] at hD4; cases hD4), upd_same]
          rfl
      rintro H3 ⟨s3, ds, hD, lds, hds⟩
      rw [List.length_map, lrs] at lds hds
      have hB3 := s3 _ _ hB2
      refine ⟨B, D, _, _, rfl, rfl, hB3, hD, Nat.le_trans (show _ ≤ 100 by rw [List.length_map, lds]; have := (hg.s R rfl).1; show 1 + R.length ≤ 100; omega) (by decide), fun G nG => ?_⟩
      have sG := same_new (o := .lst ([V.ref A] ++ ds.map V.ref)) nG
      have sW := (sB.trans s3).trans sG
      obtain ⟨rs2, hrs2⟩ : ∃ rs2, rs2 = A :: ds := ⟨_, rfl⟩
      have hW : (L2.upd H3 G (.lst ([V.ref A] ++ ds.map V.ref))) G = some (.lst (rs2.map V.ref)) := by rw [upd_same, hrs2]; rfl
      have lr2 : rs2.length = kr.length := by rw [hrs2, hkR, List.length_cons, List.length_cons, List.length_map, lds]
      have hr2 : ∀ (i : Nat) (z : Nat × List Int), kr[i]? = some z → ∃ r, rs2[i]? = some r ∧ (L2.upd H3 G (.lst ([V.ref A] ++ ds.map V.ref))) r = some (.tup (kV2 z)) := fun i z e => by
        rw [hkR] at e
        rw [hrs2]
        cases i with
        | zero => cases e; exact ⟨A, rfl, (s3.trans sG) _ _ hA2⟩
        | succ i =>
          have e : (R.map fun row => (2, row))[i]? = some z := e
          rw [List.getElem?_map] at e
          cases er : R[i]? with
          | none => rw [er] at e; cases e
          | some row =>
            rw [er] at e
            cases e
            obtain ⟨r, f1, f4⟩ := hds i row (List.getElem?_eq_some_iff.mp er).1 er
            exact ⟨r, f1, sG _ _ f4⟩
      obtain ⟨HW, hHW⟩ : ∃ HW, HW = L2.upd H3 G (.lst ([V.ref A] ++ ds.map V.ref)) := ⟨_, rfl⟩
      rw [← hHW] at sW hW hr2 ⊢
      refine st_go (σ' := [some (.ref p), some (.ref G), none, none, none]) rfl ?_
      refine ⟨⟨_, rfl⟩, .ref G, rfl, G, rfl, ⟨_, SqL.of hW⟩, fun D nD => ?_⟩
      refine lc_it walk_list (fun i H' => Same HW H' ∧ H' D = some (.lst (((kr.take i).map fun z => tx (lnZ z)).map V.str)))
        ⟨same_new nD, upd_same⟩ (fun i H' _ h => SqL.of (h.1 _ _ hW)) ?_ ?_
      · rintro i x H3 H4 hi ⟨s3, hD⟩ ⟨rfl, hx⟩
        rw [List.length_map, lr2] at hi
        obtain ⟨z, hz⟩ : ∃ z, z = kr[i] := ⟨_, rfl⟩
        have hzi : kr[i]? = some z := by rw [hz]; exact List.getElem?_eq_getElem hi
        have gz := gk z (by rw [hz]; exact List.getElem_mem hi)
        obtain ⟨r0, e1, e2⟩ := hr2 i z hzi
        rw [List.getElem?_map, e1] at hx
        have hx : some (V.ref r0) = some x := hx
        cases hx
        have e3 := s3 _ _ e2
        refine ⟨rfl, ?_⟩
        dsimp only [tYes]
        rw [if_pos rfl]
        refine ⟨⟨_, rfl⟩, .ref r0, rfl, r0, rfl, ⟨_, SqT.of e3⟩, fun D2 n2 => ?_⟩
        refine lc_it walk_tup (fun j H' => Same H4 H' ∧ H' D2 = some (.lst ((((nrow z.1 z.2).take j).map tx).map V.str))) ⟨same_new n2, upd_same⟩ (fun j H' _ h => SqT.of (h.1 _ _ e3)) ?_ ?_
        · rintro j y H5 H6 hj ⟨s5, h2⟩ ⟨rfl, hy⟩
          refine ⟨rfl, ?_⟩
          dsimp only [tYes]
          rw [if_pos rfl]
          refine ⟨y, rfl, ?_⟩
          dsimp only [tNil]
          refine rStrA_at gz hy fun t ht => ⟨_, h2, Nat.lt_of_le_of_lt (show _ ≤ 100 by rw [List.length_map, List.length_map, List.length_take]; have := (nrow_len (k := z.1) gz).1; omega) (by decide), same_upd' s5 n2, ?_⟩
          rw [upd_same, List.take_add_one, ht, List.map_append, List.map_append]
          rfl
        rintro H5 ⟨s5, h2⟩
        have lz : (kV2 z).length = (nrow z.1 z.2).length := by show (iv z.2).length + 1 = (z.2.map numT).length + 1; unfold iv; rw [List.length_map, List.length_map]
        rw [lz, List.take_length] at h2
        obtain ⟨l9, l6⟩ := nrow_len (k := z.1) gz
        have ll := lnZ_len (k := z) gz
        refine ⟨Str.ofString " ", D2, (nrow z.1 z.2).map tx, rfl, rfl, .inl (SqL.of h2), ?_, ?_⟩
        · rw [List.length_map, List.map_map]
          have := sum_le (c := 6) (fun w => (tx w).length) (nrow z.1 z.2) fun w hw => by rw [tx_len]; exact l6 w hw
          have e : (Str.ofString " ").length = 1 := by decide +kernel
          rw [e]
          have : ((nrow z.1 z.2).map ((fun x => x.length) ∘ tx)).sum ≤ 6 * (nrow z.1 z.2).length := this
          omega
        · rw [join_sp]
          refine ⟨tx (jn (nrow z.1 z.2)), Str.ofString "\n", rfl, rfl, ?_, ?_⟩
          · have e : (Str.ofString "\n").length = 1 := by decide +kernel
            rw [e, tx_len]
            have := jn_len _ l6
            have : 7 * (nrow z.1 z.2).length ≤ 63 := by omega
            omega
          · have e : Str.ofString "\n" = tx [10] := by decide +kernel
            rw [e, tx_add]
            refine ⟨_, s5 _ _ hD, Nat.lt_of_le_of_lt (show _ ≤ 100 by rw [List.length_map, List.length_map, List.length_take]; omega) (by decide), same_upd' (s3.trans s5) nD, ?_⟩
            rw [upd_same, List.take_add_one, hzi, List.map_append, List.map_append]
            rfl
      rintro H3 ⟨s3, hD⟩
      rw [List.length_map, lr2, List.take_length] at hD
      refine ⟨Str.ofString "", D, kr.map fun z => tx (lnZ z), rfl, rfl, .inl (SqL.of hD), ?_, ?_⟩
      · rw [List.length_map, List.map_map]
        have := sum_le (c := 64) (fun z => (tx (lnZ z)).length) kr fun z hz => by rw [tx_len]; exact lnZ_len (gk z hz)
        have e : (Str.ofString "").length = 0 := by decide +kernel
        rw [e]
        have : (kr.map ((fun x => x.length) ∘ fun z => tx (lnZ z))).sum ≤ 64 * kr.length := this
        omega
      · have e : Txt.join (Str.ofString "") (kr.map fun z => tx (lnZ z)) = tx (txL ((kr.map fun z => nrow z.1 z.2).map jn)) := by
          have h := join_tx (kr.map lnZ)
          rw [List.map_map] at h
          have e0 : (Str.ofString "") = tx [] := by decide +kernel
          rw [e0]
          refine h.trans (congrArg tx ?_)
          unfold txL
          rw [List.map_map, List.flatMap_map, List.flatMap_def]
          rfl
        rw [e]
        exact q _ (sW.trans s3)
    | uns x y =>
      obtain ⟨r, hp, hr⟩ := hP
      obtain ⟨l2, gx, gy⟩ := hg.u x y rfl
      have nb := ne2 x y rfl
      have hkR : kr = [(1, x), (3, y)] := hkr
      obtain ⟨s0, e0, rfl⟩ : ∃ s0 e0, x = [s0, e0] := by
        match x, l2 with
        | [s0, e0], _ => exact ⟨s0, e0, rfl⟩
      have hp : H p = some (.tup [.str (Str.ofString "unsure"), .int s0, .int e0, .ref r]) := hp
      refine ⟨.ref p, rfl, p, _, 0, .str (Str.ofString "unsure"), rfl, rfl, SqT.of hp, rfl, rfl, _, rfl, ite2 (fun z => absurd z ?_) (fun _ => ?_)⟩
      · decide +kernel
      refine ⟨.ref p, rfl, 3, rfl, p, _, rfl, SqT.of hp, fun e => absurd (show HT.sIx 4 4 (some 3) = 4 from e.2) (by decide), fun _ A nA => ⟨by show 1 ≤ sizeLine; decide, fun B nB => ?_⟩⟩
      have sA := same_new (o := .tup (cutV [.str (Str.ofString "unsure"), .int s0, .int e0, .ref r] none (some 3))) nA
      have sB := sA.trans (same_new (o := .tup [.str (Str.ofString "faults")]) nB)
      have hr2' := sB _ _ hr
      have ny : iv y ≠ [] := fun z => nb (List.map_eq_nil_iff.mp z)
      refine ⟨.ref p, rfl, p, _, 3, .ref r, rfl, rfl, SqT.of (sB _ _ hp), rfl, B, r, _, _, rfl, rfl, SqT.of upd_same, SqT.of hr2', Nat.le_trans (show _ ≤ 100 by unfold iv; rw [List.length_map]; have := gy.1; show 1 + _ ≤ 100; omega) (by decide), fun z => absurd z (by simp), fun _ z => absurd z ny, fun _ _ C nC => ⟨by show 2 ≤ sizeLine; decide, fun G nG => ?_⟩⟩
      have sC := sB.trans (same_new (o := .tup ([V.str (Str.ofString "faults")] ++ iv y)) nC)
      have sG := same_new (o := .lst [V.ref A, V.ref C]) nG
      have sW := sC.trans sG
      have hA1 := (((same_new (o := .tup [.str (Str.ofString "faults")]) nB).trans (same_new (o := .tup ([V.str (Str.ofString "faults")] ++ iv y)) nC)).trans sG) _ _ (upd_same : (L2.upd H A (.tup (cutV [.str (Str.ofString "unsure"), .int s0, .int e0, .ref r] none (some 3)))) A = _)
      obtain ⟨rs2, hrs2⟩ : ∃ rs2 : List Addr, rs2 = [A, C] := ⟨_, rfl⟩
      obtain ⟨HW, hHW⟩ : ∃ HW, HW = L2.upd (L2.upd (L2.upd (L2.upd H A (.tup (cutV [.str (Str.ofString "unsure"), .int s0, .int e0, .ref r] none (some 3)))) B (.tup [.str (Str.ofString "faults")])) C (.tup ([V.str (Str.ofString "faults")] ++ iv y))) G (.lst [V.ref A, V.ref C]) := ⟨_, rfl⟩
      have hC1 := sG _ _ (upd_same : (L2.upd (L2.upd (L2.upd H A (.tup (cutV [.str (Str.ofString "unsure"), .int s0, .int e0, .ref r] none (some 3)))) B (.tup [.str (Str.ofString "faults")])) C (.tup ([V.str (Str.ofString "faults")] ++ iv y))) C = _)
      have hW : HW G = some (.lst (rs2.map V.ref)) := by rw [hHW, upd_same, hrs2]; rfl
      rw [← hHW] at sW hA1 hC1
      have lr2 : rs2.length = kr.length := by rw [hrs2, hkR]; rfl
      have hr2 : ∀ (i : Nat) (z : Nat × List Int), kr[i]? = some z → ∃ r, rs2[i]? = some r ∧ HW r = some (.tup (kV2 z)) := fun i z e => by
        rw [hkR] at e
        rw [hrs2]
        match i, e with
        | 0, e => cases e; exact ⟨A, rfl, hA1⟩
        | 1, e => cases e; exact ⟨C, rfl, hC1⟩
      refine st_go (σ' := [some (.ref p), some (.ref G), none, none, none]) rfl ?_
      rw [show L2.upd (L2.upd (L2.upd (L2.upd H A (.tup (cutV [.str (Str.ofString "unsure"), .int s0, .int e0, .ref r] none (some 3)))) B (.tup [.str (Str.ofString "faults")])) C (.tup ([V.str (Str.ofString "faults")] ++ iv y))) G (.lst [V.ref A, V.ref C]) = HW from hHW.symm]
      refine ⟨⟨_, rfl⟩, .ref G, rfl, G, rfl, ⟨_, SqL.of hW⟩, fun D nD => ?_⟩
      refine lc_it walk_list (fun i H' => Same HW H' ∧ H' D = some (.lst (((kr.take i).map fun z => tx (lnZ z)).map V.str)))
        ⟨same_new nD, upd_same⟩ (fun i H' _ h => SqL.of (h.1 _ _ hW)) ?_ ?_
      · rintro i x H3 H4 hi ⟨s3, hD⟩ ⟨rfl, hx⟩
        rw [List.length_map, lr2] at hi
        obtain ⟨z, hz⟩ : ∃ z, z = kr[i] := ⟨_, rfl⟩
        have hzi : kr[i]? = some z := by rw [hz]; exact List.getElem?_eq_getElem hi
        have gz := gk z (by rw [hz]; exact List.getElem_mem hi)
        obtain ⟨r0, e1, e2⟩ := hr2 i z hzi
        rw [List.getElem?_map, e1] at hx
        have hx : some (V.ref r0) = some x := hx
        cases hx
        have e3 := s3 _ _ e2
        refine ⟨rfl, ?_⟩
        dsimp only [tYes]
        rw [if_pos rfl]
        refine ⟨⟨_, rfl⟩, .ref r0, rfl, r0, rfl, ⟨_, SqT.of e3⟩, fun D2 n2 => ?_⟩
        refine lc_it walk_tup (fun j H' => Same H4 H' ∧ H' D2 = some (.lst ((((nrow z.1 z.2).take j).map tx).map V.str))) ⟨same_new n2, upd_same⟩ (fun j H' _ h => SqT.of (h.1 _ _ e3)) ?_ ?_
        · rintro j y H5 H6 hj ⟨s5, h2⟩ ⟨rfl, hy⟩
          refine ⟨rfl, ?_⟩
          dsimp only [tYes]
          rw [if_pos rfl]
          refine ⟨y, rfl, ?_⟩
          dsimp only [tNil]
          refine rStrA_at gz hy fun t ht => ⟨_, h2, Nat.lt_of_le_of_lt (show _ ≤ 100 by rw [List.length_map, List.length_map, List.length_take]; have := (nrow_len (k := z.1) gz).1; omega) (by decide), same_upd' s5 n2, ?_⟩
          rw [upd_same, List.take_add_one, ht, List.map_append, List.map_append]
          rfl
        rintro H5 ⟨s5, h2⟩
        have lz : (kV2 z).length = (nrow z.1 z.2).length := by show (iv z.2).length + 1 = (z.2.map numT).length + 1; unfold iv; rw [List.length_map, List.length_map]
        rw [lz, List.take_length] at h2
        obtain ⟨l9, l6⟩ := nrow_len (k := z.1) gz
        have ll := lnZ_len (k := z) gz
        refine ⟨Str.ofString " ", D2, (nrow z.1 z.2).map tx, rfl, rfl, .inl (SqL.of h2), ?_, ?_⟩
        · rw [List.length_map, List.map_map]
          have := sum_le (c := 6) (fun w => (tx w).length) (nrow z.1 z.2) fun w hw => by rw [tx_len]; exact l6 w hw
          have e : (Str.ofString " ").length = 1 := by decide +kernel
          rw [e]
          have : ((nrow z.1 z.2).map ((fun x => x.length) ∘ tx)).sum ≤ 6 * (nrow z.1 z.2).length := this
          omega
        · rw [join_sp]
          refine ⟨tx (jn (nrow z.1 z.2)), Str.ofString "\n", rfl, rfl, ?_, ?_⟩
          · have e : (Str.ofString "\n").length = 1 := by decide +kernel
            rw [e, tx_len]
            have := jn_len _ l6
            have : 7 * (nrow z.1 z.2).length ≤ 63 := by omega
            omega
          · have e : Str.ofString "\n" = tx [10] := by decide +kernel
            rw [e, tx_add]
            refine ⟨_, s5 _ _ hD, Nat.lt_of_le_of_lt (show _ ≤ 100 by rw [List.length_map, List.length_map, List.length_take]; omega) (by decide), same_upd' (s3.trans s5) nD, ?_⟩
            rw [upd_same, List.take_add_one, hzi, List.map_append, List.map_append]
            rfl
      rintro H3 ⟨s3, hD⟩
      rw [List.length_map, lr2, List.take_length] at hD
      refine ⟨Str.ofString "", D, kr.map fun z => tx (lnZ z), rfl, rfl, .inl (SqL.of hD), ?_, ?_⟩
      · rw [List.length_map, List.map_map]
        have := sum_le (c := 64) (fun z => (tx (lnZ z)).length) kr fun z hz => by rw [tx_len]; exact lnZ_len (gk z hz)
        have e : (Str.ofString "").length = 0 := by decide +kernel
        rw [e]
        have : (kr.map ((fun x => x.length) ∘ fun z => tx (lnZ z))).sum ≤ 64 * kr.length := this
        omega
      · have e : Txt.join (Str.ofString "") (kr.map fun z => tx (lnZ z)) = tx (txL ((kr.map fun z => nrow z.1 z.2).map jn)) := by
          have h := join_tx (kr.map lnZ)
          rw [List.map_map] at h
          have e0 : (Str.ofString "") = tx [] := by decide +kernel
          rw [e0]
          refine h.trans (congrArg tx ?_)
          unfold txL
          rw [List.map_map, List.flatMap_map, List.flatMap_def]
          rfl
        rw [e]
        exact q _ (sW.trans s3)
end
end Fd

set_option autoImplicit false
set_option Elab.async false
set_option linter.all false
set_option maxRecDepth 100000
set_option maxHeartbeats 4000000
/-! a list with one item put in another's place, as an expression -/
namespace Fd
open PySem PySem.Spec PyProof.Rows L2
theorem cutV_takeE (xs : List V) (k : Nat) : cutV xs none (some (k : Int)) = xs.take k := by
  unfold cutV
  rw [HT.sIx_nat, HT.sIx_none, List.drop_zero, Nat.sub_zero]
  by_cases c : k ≤ xs.length
  · rw [Nat.min_eq_left c]
  · rw [Nat.min_eq_right (by omega), List.take_of_length_le (Nat.le_refl _), List.take_of_length_le (by omega)]
theorem cutV_dropE (xs : List V) (k : Nat) : cutV xs (some (k : Int)) none = xs.drop k := by
  unfold cutV
  rw [HT.sIx_nat, HT.sIx_none]
  by_cases c : k ≤ xs.length
  · rw [Nat.min_eq_left c, List.take_of_length_le (by rw [List.length_drop]; exact Nat.le_refl _)]
  · rw [Nat.min_eq_right (by omega), List.drop_eq_nil_of_le (Nat.le_refl _), List.drop_eq_nil_of_le (by omega), List.take_nil]
/-- two new lists joined -/
theorem el_cat {σ : L2.St} {H : Hp} {ta tb : TE} {xs ys : List V} (ha : Evl.EvL ta σ H xs) (hb : Evl.EvL tb σ H ys) (hz : xs.length + ys.length ≤ 100000) : Evl.EvL (tOp rCat ta tb) σ H (xs ++ ys) := fun H1 e Q q =>
  ha H1 e _ fun p H2 np e2 hp => hb H2 (e.trans e2) _ fun r H3 nr e3 hr => ⟨p, r, xs, ys, rfl, rfl, e3 p _ hp, hr, Evl.sz_of hz, fun t nt => q t _ (Evl.fresh_back (e2.trans e3) nt) ((e2.trans e3).trans (Evl.Ex.new nt)) upd_same⟩
theorem el_cat1 {σ : L2.St} {H : Hp} {ta tb : TE} {l : Addr} {xs ys : List V} (ha : Evl.Ev ta σ H (.ref l)) (hl : H l = some (.lst xs)) (hb : Evl.EvL tb σ H ys) (hz : xs.length + ys.length ≤ 100000) : Evl.EvL (tOp rCat ta tb) σ H (xs ++ ys) := fun H1 e Q q =>
  ha H1 e _ fun H2 e2 => hb H2 (e.trans e2) _ fun r H3 nr e3 hr => ⟨l, r, xs, ys, rfl, rfl, ((e.trans e2).trans e3) l _ hl, hr, Evl.sz_of hz, fun t nt => q t _ (Evl.fresh_back (e2.trans e3) nt) ((e2.trans e3).trans (Evl.Ex.new nt)) upd_same⟩
/-- xs[:i] + [X] + xs[i + 1:], X a new list -/
theorem el_put {K : PySem.W.Frag} {σ : L2.St} {H : Hp} {tX tA tI tJ : TE} {a : Addr} {i : Nat} {xs zs : List V} (hA : Evl.Ev tA σ H (.ref a)) (ha : H a = some (.lst xs)) (hI : Evl.Ev tI σ H (.int (i : Int))) (hJ : Evl.Ev tJ σ H (.int ((i : Int) + 1))) (hX : Evl.EvL tX σ H zs) (hz : xs.length ≤ 1000) :
    ∀ H1, Evl.Ex H H1 → ∀ Q : VK, (∀ l r H2, H1 l = none → H1 r = none → Evl.Ex H1 H2 → H2 r = some (.lst zs) → H2 l = some (.lst (xs.take i ++ [.ref r] ++ xs.drop (i + 1))) → Q (.ref l) H2) →
      tOp rCat (tOp rCat (tSl (rSlL K) tA tNoPart (tPart tI)) (tLst (tCons tX tNil))) (tSl (rSlL K) tA (tPart tJ) tNoPart) σ H1 Q := fun H1 e Q q => by
  have s1 : Evl.EvL (tSl (rSlL K) tA tNoPart (tPart tI)) σ H (xs.take i) := by
    rw [← cutV_takeE]
    exact Evl.el_sl hA Evl.eo_none (Evl.eo_some hI) (Evl.sq_of ha)
  have s2 : Evl.EvL (tSl (rSlL K) tA (tPart tJ) tNoPart) σ H (xs.drop (i + 1)) := by
    have : (i : Int) + 1 = ((i + 1 : Nat) : Int) := by omega
    rw [this] at hJ
    rw [← cutV_dropE]
    exact Evl.el_sl hA (Evl.eo_some hJ) Evl.eo_none (Evl.sq_of ha)
  have l1 : (xs.take i).length ≤ 1000 := by rw [List.length_take]; omega
  have l2 : (xs.drop (i + 1)).length ≤ 1000 := by rw [List.length_drop]; omega
  refine s1 H1 e _ fun p H2 np e2 hp => ?_
  refine hX H2 (e.trans e2) _ fun r H3 nr e3 hr => ?_
  refine ⟨by show 1 ≤ sizeLine; decide, fun m nm => ?_⟩
  have e4 := (e2.trans e3).trans (Evl.Ex.new nm (o := .lst [.ref r]))
  refine ⟨p, m, xs.take i, [.ref r], rfl, rfl, (e3.trans (Evl.Ex.new nm)) p _ hp, upd_same, Nat.le_trans (show _ ≤ 2000 by show _ + 1 ≤ _; omega) (by decide), fun c nc => ?_⟩
  have e5 := e4.trans (Evl.Ex.new nc (o := .lst (xs.take i ++ [.ref r])))
  refine s2 _ (e.trans e5) _ fun d H6 nd e6 hd => ?_
  have e7 := e5.trans e6
  refine ⟨c, d, _, _, rfl, rfl, e6 _ _ upd_same, hd, Nat.le_trans (show _ ≤ 3000 by rw [List.length_append, List.length_singleton]; omega) (by decide), fun l nl => ?_⟩
  refine q l r _ (Evl.fresh_back e7 nl) (Evl.fresh_back e2 nr) (e7.trans (Evl.Ex.new nl)) ?_ upd_same
  exact (((Evl.Ex.new nm).trans (Evl.Ex.new nc)).trans (e6.trans (Evl.Ex.new nl))) _ _ hr
/-- [.., the list with one item put, k, why] -/
theorem el_put3 {K : PySem.W.Frag} {σ : L2.St} {H : Hp} {tX tA tI tJ tN tS : TE} {a : Addr} {i : Nat} {k s : V} {xs zs : List V} (hA : Evl.Ev tA σ H (.ref a)) (ha : H a = some (.lst xs)) (hI : Evl.Ev tI σ H (.int (i : Int))) (hJ : Evl.Ev tJ σ H (.int ((i : Int) + 1))) (hX : Evl.EvL tX σ H zs) (hz : xs.length ≤ 1000)
    (hN : Evl.Ev tN σ H k) (hS : Evl.Ev tS σ H s) {Q : VK} (q : ∀ t l r H2, H l = none → H r = none → H t = none → Evl.Ex H H2 → H2 r = some (.lst zs) → H2 l = some (.lst (xs.take i ++ [.ref r] ++ xs.drop (i + 1))) → H2 t = some (.lst [.ref l, k, s]) → Q (.ref t) H2) :
    tLst (tCons (tOp rCat (tOp rCat (tSl (rSlL K) tA tNoPart (tPart tI)) (tLst (tCons tX tNil))) (tSl (rSlL K) tA (tPart tJ) tNoPart)) (tCons tN (tCons tS tNil))) σ H Q := by
  refine el_put hA ha hI hJ hX hz H (Evl.Ex.refl H) _ fun l r H2 nl nr e hr hl => ?_
  refine hN H2 e _ fun H3 e3 => hS H3 (e.trans e3) _ fun H4 e4 => ?_
  refine ⟨by show 3 ≤ sizeLine; decide, fun t nt => ?_⟩
  have e5 := (e3.trans e4).trans (Evl.Ex.new nt (o := .lst [.ref l, k, s]))
  exact q t l r _ nl nr (Evl.fresh_back ((e.trans e3).trans e4) nt) (e.trans e5) (e5 _ _ hr) (e5 _ _ hl) upd_same
end Fd

set_option autoImplicit false
set_option Elab.async false
set_option linter.all false
set_option maxRecDepth 100000
set_option maxHeartbeats 4000000
namespace Fd
open PySem PySem.Spec PyProof.Rows L2 RZ
abbrev sLs : Stmt := topL 34
theorem scLs : FnScope ["box", "lines", "at", "words", "kind", "odd", "j"] ["box", "lines"] (defScope sLs) := ⟨rfl, rfl, rfl, by decide +kernel, rfl, by decide +kernel, by decide +kernel⟩
abbrev sLsN : List Str := ["box", "lines", "at", "words", "kind", "odd", "j"]
/-- what _law_spoilt answers of the lines L: the lines, the index of the odd one (-1: behind all), the reason -/
inductive SpL (L : List (List (List Nat))) : List (List (List Nat)) → Int → Str → Prop
  | word (i : Nat) (k : List Nat) (ws odd : List (List Nat)) (o : List Nat) : L[i]? = some (k :: ws) →
      o ∈ [(Str.ofString "Sure").cps.toList, (Str.ofString "price").cps.toList, (Str.ofString "fault").cps.toList, (Str.ofString "0").cps.toList, (Str.ofString "paper").cps.toList, (Str.ofString "sures").cps.toList] ∨ (i = 0 ∧ o = kindT 2) ∨ (L[0]? = some [kindT 0] ∧ o = kindT 3) →
      SpL L (L.set i (o :: ws)) i "unknown line"
  | more (i : Nat) (ws : List (List Nat)) : L[i]? = some ws → SpL L (L.set i (ws ++ [[55]])) i "wrong number of words"
  | less (i : Nat) (ws : List (List Nat)) : L[i]? = some ws → 1 < ws.length → SpL L (L.set i ws.dropLast) i "wrong number of words"
  | num (i j : Nat) (ws : List (List Nat)) (o u : List Nat) : L[i]? = some ws → 1 ≤ j → ws[j]? = some u →
      o ∈ [48 :: u, 45 :: u, u ++ [120], (Str.ofString "1000000").cps.toList, [120], (Str.ofString "1.0").cps.toList, (Str.ofString "+1").cps.toList] →
      SpL L (L.set i (ws.set j o)) i "not a number"
  | sure (ws : List (List Nat)) : L[0]? = some [kindT 0] → ws ∈ [[kindT 0], [kindT 1, [49], [50]], [kindT 3, [49]], [[120]]] → SpL L (L ++ [ws]) L.length "unknown line"
  | short : L[0]? ≠ some [kindT 0] → SpL L (L.take 1) (-1) "faults expected"
  | long (ws u : List (List Nat)) : L[0]? ≠ some [kindT 0] → L[1]? = some u → ws ∈ [[kindT 0], [kindT 1, [49], [50]], [kindT 2, [49]], u] → SpL L (L ++ [ws]) 2 "unknown line"
theorem sgn_mi : Str.ofString "-" = tx [45] := by decide +kernel
theorem sgn_x : Str.ofString "x" = tx [120] := by decide +kernel
theorem cutV_but (xs : List V) : cutV xs none (some (-1)) = xs.dropLast := by
  unfold cutV
  have e : HT.sIx xs.length xs.length (some (-1)) = xs.length - 1 := by
    unfold HT.sIx
    dsimp only
    rw [if_pos (by omega)]
    omega
  rw [e, HT.sIx_none, List.drop_zero, Nat.sub_zero, List.dropLast_eq_take]
def wsD (ws : List (List Nat)) : PyData := .list (ws.map fun w => PyData.str (tx w))
theorem dp_wsA {K : PySem.W.Frag} {H : Hp} : ∀ ws : List (List Nat), DpAll K H (wsV ws) (ws.map fun w => PyData.str (tx w))
  | [] => .nil
  | w :: ws => .cons (.str _) (dp_wsA ws)
theorem dp_ws {K : PySem.W.Frag} {H : Hp} {r : Addr} {ws : List (List Nat)} (h : H r = some (.lst (wsV ws))) : Dp K H (.ref r) (wsD ws) := .lst (SqL.of h) (dp_wsA ws)
theorem ws_eqv (a b : List (List Nat)) : PyData.eqv (wsD a) (wsD b) = decide (a = b) := by
  have h : ∀ a b : List (List Nat), PyData.eqvAll (a.map fun w => PyData.str (tx w)) (b.map fun w => PyData.str (tx w)) = decide (a = b) := by
    intro a
    induction a with
    | nil => intro b; cases b <;> simp [PyData.eqvAll]
    | cons x a ih =>
      intro b
      cases b with
      | nil => simp [PyData.eqvAll]
      | cons y b =>
        simp only [List.map_cons, PyData.eqvAll, ih, PyData.eqv]
        by_cases c : x = y
        · subst c; simp
        · have : (tx x == tx y) = false := by
            rw [beq_eq_false_iff_ne]
            exact fun z => c (tx_inj z)
          rw [this]; simp [c]
  unfold wsD
  simp only [PyData.eqv]
  exact h a b
theorem ws_shaped {ws : List (List Nat)} (h : ∀ w ∈ ws, ∀ c ∈ w, c < 1114112) : SeqAt.shaped (wsD ws) = true := by
  have a : ∀ ws : List (List Nat), (∀ w ∈ ws, ∀ c ∈ w, c < 1114112) → PyData.canLayAll0 (ws.map fun w => PyData.str (tx w)) = true ∧ PyData.depthAll (ws.map fun w => PyData.str (tx w)) = 0 := by
    intro ws
    induction ws with
    | nil => intro _; simp [PyData.canLayAll0, PyData.depthAll]
    | cons w ws ih =>
      intro h
      obtain ⟨i1, i2⟩ := ih fun x hx => h x (by simp [hx])
      have k : PyData.strOk (tx w) = true := by
        show (w.toArray.all fun c => decide (c < 0x110000)) = true
        simp only [List.all_toArray, List.all_eq_true, decide_eq_true_eq]
        exact fun c hc => h w (by simp) c hc
      simp only [List.map_cons, PyData.canLayAll0, PyData.depthAll, PyData.canLay0, PyData.depth, i1, i2, k]
      decide
  obtain ⟨a1, a2⟩ := a ws h
  show ((wsD ws).canLay0 && decide ((wsD ws).depth ≤ 64)) = true
  rw [Bool.and_eq_true]
  refine ⟨by unfold wsD; simp only [PyData.canLay0]; exact a1, decide_eq_true ?_⟩
  unfold wsD
  simp only [PyData.depth, a2]
  decide
theorem k0_ch : ∀ w ∈ [kindT 0], ∀ c ∈ w, c < 1114112 := by decide
theorem app_0 : [V.str (Str.ofString "sure")] = wsV [kindT 0] := by decide +kernel
theorem app_1 : [V.str (Str.ofString "unsure"), .str (Str.ofString "1"), .str (Str.ofString "2")] = wsV [kindT 1, [49], [50]] := by decide +kernel
theorem app_2 : [V.str (Str.ofString "faults"), .str (Str.ofString "1")] = wsV [kindT 3, [49]] := by decide +kernel
theorem app_3 : [V.str (Str.ofString "x")] = wsV [[120]] := by decide +kernel
theorem app_4 : [V.str (Str.ofString "prices"), .str (Str.ofString "1")] = wsV [kindT 2, [49]] := by decide +kernel
theorem lns_set {b l r : Addr} {H : Hp} {L : List (List (List Nat))} {i : Nat} {ws : List (List Nat)} {rs : List Addr} (hi : i < L.length) (hl : rs.length = L.length)
    (hr : ∀ (j : Nat) (u : List (List Nat)), L[j]? = some u → ∃ r, rs[j]? = some r ∧ r ≠ b ∧ H r = some (.lst (wsV u))) (nb : r ≠ b) (h : H r = some (.lst (wsV ws)))
    (e : H l = some (.lst ((rs.take i ++ [r] ++ rs.drop (i + 1)).map V.ref))) : LnsAt b H l (L.set i ws) := by
  refine ⟨rs.set i r, ?_, by rw [List.length_set, List.length_set, hl], fun j u hj => ?_⟩
  · rw [e, List.set_eq_take_append_cons_drop, if_pos (by omega)]
    simp
  · by_cases c : i = j
    · subst c
      rw [List.getElem?_set_self hi] at hj
      cases hj
      exact ⟨r, List.getElem?_set_self (by omega), nb, h⟩
    · rw [List.getElem?_set_ne c] at hj
      obtain ⟨r2, e1, e2, e3⟩ := hr j u hj
      exact ⟨r2, by rw [List.getElem?_set_ne c]; exact e1, e2, e3⟩
theorem lns_snoc {b l r : Addr} {H : Hp} {L : List (List (List Nat))} {ws : List (List Nat)} {rs : List Addr} (hl : rs.length = L.length)
    (hr : ∀ (j : Nat) (u : List (List Nat)), L[j]? = some u → ∃ r, rs[j]? = some r ∧ r ≠ b ∧ H r = some (.lst (wsV u))) (nb : r ≠ b) (h : H r = some (.lst (wsV ws)))
    (e : H l = some (.lst ((rs ++ [r]).map V.ref))) : LnsAt b H l (L ++ [ws]) := by
  refine ⟨rs ++ [r], e, by rw [List.length_append, List.length_append, hl]; rfl, fun j u hj => ?_⟩
  by_cases c : j < L.length
  · rw [List.getElem?_append_left c] at hj
    obtain ⟨r2, e1, e2, e3⟩ := hr j u hj
    exact ⟨r2, by rw [List.getElem?_append_left (by omega)]; exact e1, e2, e3⟩
  · rw [List.getElem?_append_right (by omega)] at hj
    obtain ⟨k, hk⟩ : ∃ k, k = j - L.length := ⟨_, rfl⟩
    rw [← hk] at hj
    match k, hj, hk with
    | 0, hj, hk =>
      cases hj
      exact ⟨r, by rw [List.getElem?_append_right (by omega), hl, ← hk]; rfl, nb, h⟩
section
variable {P : Program} {w : World} {K : PySem.W.Frag} {mg : Str → Option Value} {base : Heap}
def spLs : Sp := fun vs H Q _ => ∃ (b D a : Addr) (ds : List Int) (n : Nat) (L : List (List (List Nat))), vs = [.ref b, .ref a] ∧ BoxAt H b D ds n ∧ L ≠ [] ∧ (L[0]? ≠ some [kindT 0] → L.length = 2) ∧ LnsAt b H a L ∧ (L.length ≤ 10 ∧ ∀ ws ∈ L, ws ≠ [] ∧ ws.length ≤ 9 ∧ ∀ w ∈ ws, w.length ≤ 10 ∧ ∀ c ∈ w, c < 1114112) ∧ ∀ H' n' t l L' (i : Int) why, SmB b H H' → BoxAt H' b D ds n' → SpL L L' i why → LnsAt b H' l L' → H' t = some (.lst [.ref l, .int i, .str why]) → Q (.ref t) H'
theorem ok_ls {f fD fPk : Addr} {fd fdD fdPk : FuncData} (F : Fun K "_law_spoilt" "_law_spoilt" sLs f fd)
    (FD : Fun K "_law_draw" "_law_draw" sDraw fD fdD) (GD : FnOk P w K mg base CX0 1 fD fdD ["box", "many"] spDraw) (bD : Binds K fdD ["box", "many"] []) (gD : mg "_law_draw" = some (.ref fD))
    (FPk : Fun K "_law_pick" "_law_pick" sPick fPk fdPk) (GPk : FnOk P w K mg base CX0 2 fPk fdPk ["box", "things"] spPickV) (bPk : Binds K fdPk ["box", "things"] []) (gPk : mg "_law_pick" = some (.ref fPk))
    (mLen : mg "len" = none) (mI : mg "int" = none) : FnOk P w K mg base CX0 3 f fd ["box", "lines"] spLs := by
  refine F.ok scLs (fun vs H Q E h => ?_) (fun cdv A outer s H vs Q E hr h => ?_)
  · obtain ⟨b, D, a, ds, n, L, rfl, _⟩ := h
    rfl
  · obtain ⟨b, D, a, ds, n, L, rfl, hB, hL, hL2, hA, hz, q⟩ := h
    have hr1 : Room 1 _ := hr.mono (by decide)
    refine ⟨_, pss_cons (ps_set (i := 2) scLs.nd rfl (.inl rfl) (pe_call GD hr1 (by rfl) gD FD.kp bD .nil pass0 (pa_cons (pv 0) (pa_cons (pe_callB call_len_seq (by rfl) mLen PySem.boot_len (pa_cons (pv 1) pa_nil)) pa_nil))))
      (pss_cons (ps_set (i := 3) scLs.nd rfl (.inl rfl) (pe_ix ix_list (pv 1) (pv 2) (fun _ _ => rfl)))
      (pss_cons (ps_set (i := 4) scLs.nd rfl (.inl rfl) (pe_call GD hr1 (by rfl) gD FD.kp bD .nil pass0 (pa_cons (pv 0) (pa_cons (pe_int) pa_nil))))
      (pss_cons (ps_if (pt_cmpR op_eq (pv 4) (pe_int) (nomark _))
        (pss_cons (ps_set (i := 5) scLs.nd rfl (.inl rfl) (pe_call GPk hr (by rfl) gPk FPk.kp bPk .nil pass0 (pa_cons (pv 0) (pa_cons (pe_lst (pa_cons (pe_str) (pa_cons (pe_str) (pa_cons (pe_str) (pa_cons (pe_op op_repS (pe_str) (pe_callTy call_int1 (by rfl) mI (by decide +kernel) (pa_cons (pe_cmpR op_eq (pv 2) (pe_int) (nomark _)) pa_nil))) (pa_cons (pe_op op_repS (pe_str) (pe_callTy call_int1 (by rfl) mI (by decide +kernel) (pa_cons (pe_cmpR (op_eqD hr.units) (pe_ix ix_list (pv 1) (pe_int) (fun _ _ => rfl)) (pe_lst (pa_cons (pe_str) pa_nil)) (nomark _)) pa_nil))) (pa_cons (pe_str) (pa_cons (pe_str) pa_nil)))))))) pa_nil))))
        (pss_cons (ps_if (pt_cmpR op_eq (pv 5) (pe_str) (nomark _))
          (pss_one (ps_set (i := 5) scLs.nd rfl (.inl rfl) (pe_str))) pss_nil)
        (pss_one (ps_ret (pe_lst (pa_cons (pe_op op_cat (pe_op op_cat (pe_slice sl_list (pv 1) po_none (po_some (pv 2))) (pe_lst (pa_cons (pe_op op_cat (pe_lst (pa_cons (pv 5) pa_nil)) (pe_slice sl_list (pv 3) (po_some (pe_int)) po_none)) pa_nil))) (pe_slice sl_list (pv 1) (po_some (pe_op op_add (pv 2) (pe_int))) po_none)) (pa_cons (pv 2) (pa_cons (pe_str) pa_nil)))))))) pss_nil)
      (pss_cons (ps_if (pt_cmpR op_eq (pv 4) (pe_int) (nomark _))
        (pss_one (ps_ret (pe_lst (pa_cons (pe_op op_cat (pe_op op_cat (pe_slice sl_list (pv 1) po_none (po_some (pv 2))) (pe_lst (pa_cons (pe_op op_cat (pv 3) (pe_lst (pa_cons (pe_str) pa_nil))) pa_nil))) (pe_slice sl_list (pv 1) (po_some (pe_op op_add (pv 2) (pe_int))) po_none)) (pa_cons (pv 2) (pa_cons (pe_str) pa_nil)))))) pss_nil)
      (pss_cons (ps_if (PW.pt (pw_and (pt_cmpR op_eq (pv 4) (pe_int) (nomark _)) (pw_and1 (pt_cmpR op_gt (pe_callB call_len_seq (by rfl) mLen PySem.boot_len (pa_cons (pv 3) pa_nil)) (pe_int) (nomark _)))))
        (pss_one (ps_ret (pe_lst (pa_cons (pe_op op_cat (pe_op op_cat (pe_slice sl_list (pv 1) po_none (po_some (pv 2))) (pe_lst (pa_cons (pe_slice sl_list (pv 3) po_none (po_some (pe_un un_neg (pe_int)))) pa_nil))) (pe_slice sl_list (pv 1) (po_some (pe_op op_add (pv 2) (pe_int))) po_none)) (pa_cons (pv 2) (pa_cons (pe_str) pa_nil)))))) pss_nil)
      (pss_cons (ps_if (PW.pt (pw_and (pt_cmpR op_eq (pv 4) (pe_int) (nomark _)) (pw_and1 (pt_cmpR op_gt (pe_callB call_len_seq (by rfl) mLen PySem.boot_len (pa_cons (pv 3) pa_nil)) (pe_int) (nomark _)))))
        (pss_cons (ps_set (i := 6) scLs.nd rfl (.inl rfl) (pe_op op_add (pe_int) (pe_call GD hr1 (by rfl) gD FD.kp bD .nil pass0 (pa_cons (pv 0) (pa_cons (pe_op op_sub (pe_callB call_len_seq (by rfl) mLen PySem.boot_len (pa_cons (pv 3) pa_nil)) (pe_int)) pa_nil)))))
        (pss_cons (ps_set (i := 5) scLs.nd rfl (.inl rfl) (pe_call GPk hr (by rfl) gPk FPk.kp bPk .nil pass0 (pa_cons (pv 0) (pa_cons (pe_lst (pa_cons (pe_op op_add_str (pe_str) (pe_ix ix_list (pv 3) (pv 6) (fun _ _ => rfl))) (pa_cons (pe_op op_add_str (pe_str) (pe_ix ix_list (pv 3) (pv 6) (fun _ _ => rfl))) (pa_cons (pe_op op_add_str (pe_ix ix_list (pv 3) (pv 6) (fun _ _ => rfl)) (pe_str)) (pa_cons (pe_str) (pa_cons (pe_str) (pa_cons (pe_str) (pa_cons (pe_str) pa_nil)))))))) pa_nil))))
        (pss_one (ps_ret (pe_lst (pa_cons (pe_op op_cat (pe_op op_cat (pe_slice sl_list (pv 1) po_none (po_some (pv 2))) (pe_lst (pa_cons (pe_op op_cat (pe_op op_cat (pe_slice sl_list (pv 3) po_none (po_some (pv 6))) (pe_lst (pa_cons (pv 5) pa_nil))) (pe_slice sl_list (pv 3) (po_some (pe_op op_add (pv 6) (pe_int))) po_none)) pa_nil))) (pe_slice sl_list (pv 1) (po_some (pe_op op_add (pv 2) (pe_int))) po_none)) (pa_cons (pv 2) (pa_cons (pe_str) pa_nil)))))))) pss_nil)
      (pss_cons (ps_if (pt_cmpR (op_eqD hr.units) (pe_ix ix_list (pv 1) (pe_int) (fun _ _ => rfl)) (pe_lst (pa_cons (pe_str) pa_nil)) (nomark _))
        (pss_one (ps_ret (pe_lst (pa_cons (pe_op op_cat (pv 1) (pe_lst (pa_cons (pe_call GPk hr (by rfl) gPk FPk.kp bPk .nil pass0 (pa_cons (pv 0) (pa_cons (pe_lst (pa_cons (pe_lst (pa_cons (pe_str) pa_nil)) (pa_cons (pe_lst (pa_cons (pe_str) (pa_cons (pe_str) (pa_cons (pe_str) pa_nil)))) (pa_cons (pe_lst (pa_cons (pe_str) (pa_cons (pe_str) pa_nil))) (pa_cons (pe_lst (pa_cons (pe_str) pa_nil)) pa_nil))))) pa_nil))) pa_nil))) (pa_cons (pe_callB call_len_seq (by rfl) mLen PySem.boot_len (pa_cons (pv 1) pa_nil)) (pa_cons (pe_str) pa_nil)))))) pss_nil)
      (pss_cons (ps_if (pt_cmpR op_eq (pv 4) (pe_int) (nomark _))
        (pss_one (ps_ret (pe_lst (pa_cons (pe_slice sl_list (pv 1) po_none (po_some (pe_int))) (pa_cons (pe_op op_sub (pe_int) (pe_int)) (pa_cons (pe_str) pa_nil)))))) pss_nil)
      (pss_one (ps_ret (pe_lst (pa_cons (pe_op op_cat (pv 1) (pe_lst (pa_cons (pe_call GPk hr (by rfl) gPk FPk.kp bPk .nil pass0 (pa_cons (pv 0) (pa_cons (pe_lst (pa_cons (pe_lst (pa_cons (pe_str) pa_nil)) (pa_cons (pe_lst (pa_cons (pe_str) (pa_cons (pe_str) (pa_cons (pe_str) pa_nil)))) (pa_cons (pe_lst (pa_cons (pe_str) (pa_cons (pe_str) pa_nil))) (pa_cons (pe_ix ix_list (pv 1) (pe_int) (fun _ _ => rfl)) pa_nil))))) pa_nil))) pa_nil))) (pa_cons (pe_int) (pa_cons (pe_str) pa_nil)))))))))))))), ?_⟩
    have big : 2000000 ≤ sizeLine := by decide
    obtain ⟨rs, ha, lr, hR⟩ := hA
    obtain ⟨l10, hws⟩ := hz
    have hws0 : ∀ ws ∈ L, ∀ w ∈ ws, ∀ c ∈ w, c < 1114112 := fun ws h w hw => ((hws ws h).2.2 w hw).2
    have nab : a ≠ b := fun z => by
      rw [z, hB.1] at ha
      injection ha with ha
      injection ha with ha
      match rs, ha with
      | [x, y], ha =>
        injection ha with _ ha
        injection ha with ha _
        cases ha
    have lL : 0 < L.length := List.length_pos_iff.mpr hL
    have lrs : (rs.map V.ref).length = L.length := by rw [List.length_map, lr]
    refine ⟨.ref b, rfl, .ref a, rfl, a, _, rfl, .inl (SqL.of ha), b, D, ds, n, _, rfl, hB, by rw [lrs]; omega, fun d d0 d1 => ?_⟩
    obtain ⟨i, rfl⟩ : ∃ i : Nat, d = i := ⟨d.toNat, by omega⟩
    rw [lrs] at d1
    have hi : i < L.length := by omega
    have hB1 := hB.bump
    obtain ⟨r, e1, nrb, hr1⟩ := hR i _ (List.getElem?_eq_getElem hi)
    refine st_go (σ' := [some (.ref b), some (.ref a), some (.int (i : Int)), none, none, none, none]) rfl ?_
    refine ⟨.ref a, rfl, .int (i : Int), rfl, a, _, i, .ref r, rfl, rfl, SqL.of (by rw [upd_ne nab]; exact ha), atI_nat (by rw [List.getElem?_map, e1]; rfl), ?_⟩
    refine st_go (σ' := [some (.ref b), some (.ref a), some (.int (i : Int)), some (.ref r), none, none, none]) rfl ?_
    refine ⟨.ref b, rfl, b, D, ds, n + 1, 6, rfl, hB1, by decide, fun kd k0 k6 => ?_⟩
    have hB2 := hB1.bump
    obtain ⟨H2, hH2⟩ : ∃ H2, H2 = L2.upd (L2.upd H b (.lst [.ref D, .int (n + 1 : Nat)])) b (.lst [.ref D, .int (n + 1 + 1 : Nat)]) := ⟨_, rfl⟩
    have s2 : SmB b H H2 := by rw [hH2]; exact SmB.upd.trans SmB.upd
    rw [← hH2] at hB2 ⊢
    refine st_go (σ' := [some (.ref b), some (.ref a), some (.int (i : Int)), some (.ref r), some (.int kd), none, none]) rfl ?_
    obtain ⟨ws, hw⟩ : ∃ ws, ws = L[i] := ⟨_, rfl⟩
    have eL : L[i]? = some ws := by rw [hw]; exact List.getElem?_eq_getElem hi
    rw [← hw] at hr1
    obtain ⟨wne, w9, w10'⟩ := hws ws (by rw [hw]; exact List.getElem_mem hi)
    have w10 := fun w h => (w10' w h).1
    have lwv : (wsV ws).length = ws.length := by unfold wsV; rw [List.length_map]
    -- what the four cases share: lines[:i] + [X] + lines[i + 1:]
    have put : ∀ (t l r0 : Addr) (H3 H4 : Hp) (n3 : Nat) (zs : List (List Nat)) (why : Str), SmB b H H3 → BoxAt H3 b D ds n3 → Same H3 H4 → H3 r0 = none → SpL L (L.set i zs) i why →
        H4 r0 = some (.lst (wsV zs)) → H4 l = some (.lst ((rs.map V.ref).take i ++ [V.ref r0] ++ (rs.map V.ref).drop (i + 1))) → H4 t = some (.lst [.ref l, .int (i : Int), .str why]) → Q (.ref t) H4 := by
      intro t l r0 H3 H4 n3 zs why s3 hB3 s4 nr hS h1 h2 h3
      have nrb : r0 ≠ b := fun z => by rw [z, hB3.1] at nr; cases nr
      have s5 := s3.trans (SmB.of s4)
      refine q H4 n3 t l _ i why s5 (hB3.same s4) hS ?_ h3
      refine lns_set hi lr (fun j u hj => ?_) nrb h1 (by rw [h2, List.map_append, List.map_append, List.map_take, List.map_drop]; rfl)
      obtain ⟨r2, f1, f2, f3⟩ := hR j u hj
      exact ⟨r2, f1, f2, s5 _ _ f2 f3⟩
    refine ⟨.int kd, rfl, rfl, _, rfl, ite2 (fun c0 => ?_) (fun c0 => ?_)⟩
    · have b01 : ∀ k : Bool, (0 : Int) ≤ (if k then 1 else 0) ∧ (if k then (1 : Int) else 0) ≤ 1 := by decide
      obtain ⟨r0, f1, nrb0, hr0⟩ := hR 0 _ (List.getElem?_eq_getElem lL)
      have hr02 := s2 _ _ nrb0 hr0
      have ha2 := s2 _ _ nab ha
      have at0 : atI (rs.map V.ref) 0 = some (.ref r0) := atI_nat (j := 0) (by rw [List.getElem?_map, f1]; rfl)
      refine ⟨.ref b, rfl, .int (i : Int), rfl, rfl, .inr ⟨_, rfl, kindT 2, _, congrArg V.str (kindS_tx 2), rfl, by have := b01 (decide (V.int (i : Int) = V.int 0)); omega, by have := b01 (decide (V.int (i : Int) = V.int 0)); omega, ?_, ?_⟩⟩
      · have := b01 (decide (V.int (i : Int) = V.int 0))
        show 6 * _ ≤ _
        omega
      refine ⟨.ref a, rfl, a, _, 0, .ref r0, rfl, rfl, SqL.of ha2, at0, by show 1 ≤ sizeLine; decide, fun p np => ?_⟩
      have t1 := same_new (o := .lst [.str (Str.ofString "sure")]) np
      refine ⟨wsD L[0], wsD [kindT 0], dp_ws (t1 _ _ hr02), dp_ws (by rw [upd_same]; exact congrArg (fun x => some (HO.lst x)) app_0), ws_shaped (hws0 _ (List.getElem_mem lL)), ws_shaped k0_ch, ?_⟩
      refine .inr ⟨_, rfl, kindT 3, _, congrArg V.str (kindS_tx 3), rfl, by have := b01 (PyData.eqv (wsD L[0]) (wsD [kindT 0])); omega, by have := b01 (PyData.eqv (wsD L[0]) (wsD [kindT 0])); omega, ?_, ?_⟩
      · have := b01 (PyData.eqv (wsD L[0]) (wsD [kindT 0]))
        show 6 * _ ≤ _
        omega
      obtain ⟨x1, hx1⟩ : ∃ x1, x1 = (List.replicate (if (decide (V.int (i : Int) = V.int 0)) then (1 : Int) else 0).toNat (kindT 2)).flatten := ⟨_, rfl⟩
      obtain ⟨x2, hx2⟩ : ∃ x2, x2 = (List.replicate (if PyData.eqv (wsD L[0]) (wsD [kindT 0]) then (1 : Int) else 0).toNat (kindT 3)).flatten := ⟨_, rfl⟩
      rw [← hx1, ← hx2]
      have g1 : x1 = [] ∨ (i = 0 ∧ x1 = kindT 2) := by
        by_cases c : i = 0
        · right
          refine ⟨c, ?_⟩
          rw [hx1, c]
          decide
        · left
          rw [hx1, decide_eq_false (show ¬ V.int (i : Int) = V.int 0 from fun z => by injection z with z; omega)]
          rfl
      have g2 : x2 = [] ∨ (L[0]? = some [kindT 0] ∧ x2 = kindT 3) := by
        rw [ws_eqv] at hx2
        by_cases c : L[0] = [kindT 0]
        · right
          refine ⟨by rw [List.getElem?_eq_getElem lL, c], ?_⟩
          rw [hx2, decide_eq_true c]
          decide
        · left
          rw [hx2, decide_eq_false c]
          rfl
      refine ⟨by show 7 ≤ sizeLine; decide, fun pk npk => ?_⟩
      have t2 := t1.trans (same_new (o := .lst [.str (Str.ofString "Sure"), .str (Str.ofString "price"), .str (Str.ofString "fault"), .str (tx x1), .str (tx x2), .str (Str.ofString "0"), .str (Str.ofString "paper")]) npk)
      have hB3 := hB2.same t2
      have nkb : pk ≠ b := fun z => by
        have := t1 _ _ hB2.1
        rw [← z, npk] at this
        cases this
      refine ⟨b, D, ds, _, pk, _, rfl, hB3, upd_same, nkb, by simp, by show 7 ≤ 100; decide, fun v hv => ?_⟩
      have hB4 := hB3.bump
      obtain ⟨o, rfl, ho⟩ : ∃ o, v = .str (tx o) ∧ (o = [] ∨ (o ∈ [(Str.ofString "Sure").cps.toList, (Str.ofString "price").cps.toList, (Str.ofString "fault").cps.toList, (Str.ofString "0").cps.toList, (Str.ofString "paper").cps.toList, (Str.ofString "sures").cps.toList] ∨ (i = 0 ∧ o = kindT 2) ∨ (L[0]? = some [kindT 0] ∧ o = kindT 3))) := by
        simp only [List.mem_cons, List.not_mem_nil, or_false] at hv
        rcases hv with rfl | rfl | rfl | rfl | rfl | rfl | rfl
        · exact ⟨(Str.ofString "Sure").cps.toList, rfl, .inr (.inl (by simp))⟩
        · exact ⟨(Str.ofString "price").cps.toList, rfl, .inr (.inl (by simp))⟩
        · exact ⟨(Str.ofString "fault").cps.toList, rfl, .inr (.inl (by simp))⟩
        · exact ⟨x1, rfl, g1.elim .inl fun h => .inr (.inr (.inl h))⟩
        · exact ⟨x2, rfl, g2.elim .inl fun h => .inr (.inr (.inr h))⟩
        · exact ⟨(Str.ofString "0").cps.toList, rfl, .inr (.inl (by simp))⟩
        · exact ⟨(Str.ofString "paper").cps.toList, rfl, .inr (.inl (by simp))⟩
      have s4 := (s2.trans (SmB.of t2)).trans (SmB.upd (x := b) (o := .lst [.ref D, .int (n + 1 + 1 + 1 : Nat)]))
      obtain ⟨H4, hH4⟩ : ∃ H4, H4 = L2.upd (L2.upd (L2.upd H2 p (.lst [.str (Str.ofString "sure")])) pk (.lst [.str (Str.ofString "Sure"), .str (Str.ofString "price"), .str (Str.ofString "fault"), .str (tx x1), .str (tx x2), .str (Str.ofString "0"), .str (Str.ofString "paper")])) b (.lst [.ref D, .int (n + 1 + 1 + 1 : Nat)]) := ⟨_, rfl⟩
      rw [← hH4] at s4 hB4 ⊢
      refine st_go (σ' := [some (.ref b), some (.ref a), some (.int (i : Int)), some (.ref r), some (.int kd), some (.str (tx o)), none]) rfl ?_
      obtain ⟨o2, ho2, hgo⟩ : ∃ o2, (o2 ∈ [(Str.ofString "Sure").cps.toList, (Str.ofString "price").cps.toList, (Str.ofString "fault").cps.toList, (Str.ofString "0").cps.toList, (Str.ofString "paper").cps.toList, (Str.ofString "sures").cps.toList] ∨ (i = 0 ∧ o2 = kindT 2) ∨ (L[0]? = some [kindT 0] ∧ o2 = kindT 3)) ∧ ((o = [] ∧ o2 = (Str.ofString "sures").cps.toList) ∨ (o ≠ [] ∧ o2 = o)) := by
        by_cases c : o = []
        · exact ⟨(Str.ofString "sures").cps.toList, .inl (by simp), .inl ⟨c, rfl⟩⟩
        · exact ⟨o, ho.elim (fun z => absurd z c) id, .inr ⟨c, rfl⟩⟩
      have em : ∀ o : List Nat, V.str (tx o) = V.str (Str.ofString "") ↔ o = [] := fun o => by
        rw [el_0]
        exact ⟨fun z => by injection z with z; exact tx_inj z, fun z => by rw [z]⟩
      refine ⟨.str (tx o), rfl, rfl, _, rfl, ite2 (fun c => ?_) (fun c => ?_)⟩
      · rcases hgo with ⟨_, h2⟩ | ⟨h1, _⟩
        · refine st_go (σ' := [some (.ref b), some (.ref a), some (.int (i : Int)), some (.ref r), some (.int kd), some (.str (tx o2)), none]) (by rw [h2]; rfl) ?_
          refine el_put3 (K := K) (Evl.ev_var rfl) (s4 _ _ nab ha) (Evl.ev_var rfl) (Evl.ev_op (Evl.ev_var rfl) Evl.ev_c Evl.rv_I0) (el_cat (Evl.el_lst (Evl.ea_cons (Evl.ev_var rfl) Evl.ea_nil) (by show 1 ≤ 100000; decide)) (Evl.el_sl (Evl.ev_var rfl) (Evl.eo_some Evl.ev_c) Evl.eo_none (SqL.of (s4 _ _ nrb hr1))) ?_) (by rw [lrs]; omega) (Evl.ev_var rfl) Evl.ev_c (fun t l r1 H8 nl nr nt e h1 h2 h3 => ?_)
          · have := cutV_length (wsV ws) (some 1) none
            show 1 + _ ≤ _
            omega
          · obtain ⟨k, wt, rfl⟩ : ∃ k wt, ws = k :: wt := List.exists_cons_of_ne_nil wne
            refine put t l r1 H4 H8 _ (o2 :: wt) _ s4 hB4 e nr (.word i k wt [] o2 eL ho2) ?_ h2 h3
            rw [h1]
            exact congrArg (fun x => some (HO.lst ([V.str (tx o2)] ++ x))) (cutV1 (wsV (k :: wt)))
        · exact absurd ((em o).mp (of_decide_eq_true c)) h1
      · rcases hgo with ⟨h1, _⟩ | ⟨_, h2⟩
        · exact absurd (decide_eq_true ((em o).mpr h1)) c
        · subst h2
          refine el_put3 (K := K) (Evl.ev_var rfl) (s4 _ _ nab ha) (Evl.ev_var rfl) (Evl.ev_op (Evl.ev_var rfl) Evl.ev_c Evl.rv_I0) (el_cat (Evl.el_lst (Evl.ea_cons (Evl.ev_var rfl) Evl.ea_nil) (by show 1 ≤ 100000; decide)) (Evl.el_sl (Evl.ev_var rfl) (Evl.eo_some Evl.ev_c) Evl.eo_none (SqL.of (s4 _ _ nrb hr1))) ?_) (by rw [lrs]; omega) (Evl.ev_var rfl) Evl.ev_c (fun t l r1 H8 nl nr nt e h1 h2 h3 => ?_)
          · have := cutV_length (wsV ws) (some 1) none
            show 1 + _ ≤ _
            omega
          · obtain ⟨k, wt, rfl⟩ : ∃ k wt, ws = k :: wt := List.exists_cons_of_ne_nil wne
            refine put t l r1 H4 H8 _ (o2 :: wt) _ s4 hB4 e nr (.word i k wt [] o2 eL ho2) ?_ h2 h3
            rw [h1]
            exact congrArg (fun x => some (HO.lst ([V.str (tx o2)] ++ x))) (cutV1 (wsV (k :: wt)))
    refine ⟨.int kd, rfl, rfl, _, rfl, ite2 (fun c1 => ?_) (fun c1 => ?_)⟩
    · refine el_put3 (K := K) (Evl.ev_var rfl) (s2 _ _ nab ha) (Evl.ev_var rfl) (Evl.ev_op (Evl.ev_var rfl) Evl.ev_c Evl.rv_I0) (el_cat1 (Evl.ev_var rfl) (s2 _ _ nrb hr1) (Evl.el_lst (Evl.ea_cons Evl.ev_c Evl.ea_nil) (by decide)) (by rw [lwv]; show _ + 1 ≤ _; omega)) (by rw [lrs]; omega) (Evl.ev_var rfl) Evl.ev_c (fun t l r0 H4 nl nr nt e h1 h2 h3 => ?_)
      exact put t l r0 H2 H4 _ (ws ++ [[55]]) _ s2 hB2 e nr (.more i ws eL) (by rw [h1]; unfold wsV; rw [List.map_append]; rfl) h2 h3
    have hr2 := s2 _ _ nrb hr1
    refine Evl.s_if (b := decide (V.int kd = V.int 2) && decide (((wsV ws).length : Int) > 1)) (Evl.et_and (Evl.et_test (Evl.ev_op (Evl.ev_var rfl) Evl.ev_c (Evl.rv_eq rfl))) fun _ => Evl.et_test (Evl.ev_op (Evl.ev_len (Evl.ev_var rfl) (SqL.of hr2)) Evl.ev_c Evl.rv_I0)) (fun c H3 e3 => ?_) (fun _ H3 e3 => ?_)
    · rw [Bool.and_eq_true, decide_eq_true_eq, decide_eq_true_eq, lwv] at c
      have s3 := s2.trans (SmB.of e3)
      have hr3 := e3 _ _ hr2
      refine el_put3 (K := K) (Evl.ev_var rfl) (s3 _ _ nab ha) (Evl.ev_var rfl) (Evl.ev_op (Evl.ev_var rfl) Evl.ev_c Evl.rv_I0) (Evl.el_sl (Evl.ev_var rfl) Evl.eo_none (Evl.eo_some (Evl.ev_un Evl.ev_c Evl.ru_neg)) (SqL.of hr3)) (by rw [lrs]; omega) (Evl.ev_var rfl) Evl.ev_c (fun t l r0 H4 nl nr nt e h1 h2 h3 => ?_)
      refine put t l r0 H3 H4 _ ws.dropLast _ s3 (hB2.same e3) e nr (.less i ws eL (by omega)) (by rw [h1, cutV_but]; unfold wsV; rw [List.map_dropLast]) h2 h3
    have s3 := s2.trans (SmB.of e3)
    have hB3 := hB2.same e3
    have hr3 := e3 _ _ hr2
    refine Evl.s_if (b := decide (V.int kd = V.int 3) && decide (((wsV ws).length : Int) > 1)) (Evl.et_and (Evl.et_test (Evl.ev_op (Evl.ev_var rfl) Evl.ev_c (Evl.rv_eq rfl))) fun _ => Evl.et_test (Evl.ev_op (Evl.ev_len (Evl.ev_var rfl) (SqL.of hr3)) Evl.ev_c Evl.rv_I0)) (fun c H4 e4 => ?_) (fun _ H4 e4 => ?_)
    · rw [Bool.and_eq_true, decide_eq_true_eq, decide_eq_true_eq, lwv] at c
      have s4 := s3.trans (SmB.of e4)
      have hB4 := hB3.same e4
      have hr4 := e4 _ _ hr3
      refine ⟨.ref b, rfl, .ref r, rfl, r, _, rfl, .inl (SqL.of hr4), _, _, rfl, rfl, b, D, ds, _, _, rfl, hB4, by rw [lwv]; omega, fun d dd0 dd1 => ⟨_, _, rfl, rfl, ?_⟩⟩
      rw [lwv] at dd1
      obtain ⟨j, rfl, hj1, hj2⟩ : ∃ j : Nat, d = (j : Int) - 1 ∧ 1 ≤ j ∧ j < ws.length := ⟨d.toNat + 1, by omega, by omega, by omega⟩
      have hB5 := hB4.bump
      have ej : (1 : Int) + ((j : Int) - 1) = (j : Int) := by omega
      refine st_go (σ' := [some (.ref b), some (.ref a), some (.int (i : Int)), some (.ref r), some (.int kd), none, some (.int (j : Int))]) (by show List.set _ 6 (some (V.int (1 + ((j : Int) - 1)))) = _; rw [ej]; rfl) ?_
      obtain ⟨u, hu⟩ : ∃ u, ws[j]? = some u := ⟨_, List.getElem?_eq_getElem hj2⟩
      have u10 := w10 u (List.mem_of_getElem? hu)
      have hat : atI (wsV ws) (j : Int) = some (.str (tx u)) := atI_nat (by unfold wsV; rw [List.getElem?_map, hu]; rfl)
      have hr5 := (SmB.upd (H := H4) (x := b) (o := .lst [.ref D, .int (n + 1 + 1 + 1 : Nat)])) _ _ nrb hr4
      refine ⟨.ref b, rfl, .ref r, rfl, .int (j : Int), rfl, r, _, (j : Int), _, rfl, rfl, SqL.of hr5, hat, _, _, rfl, rfl, by rw [sgn_zero, tx_len, tx_len]; show 1 + _ ≤ _; omega, ?_⟩
      refine ⟨.ref r, rfl, .int (j : Int), rfl, r, _, (j : Int), _, rfl, rfl, SqL.of hr5, hat, _, _, rfl, rfl, by rw [sgn_mi, tx_len, tx_len]; show 1 + _ ≤ _; omega, ?_⟩
      refine ⟨.ref r, rfl, .int (j : Int), rfl, r, _, (j : Int), _, rfl, rfl, SqL.of hr5, hat, _, _, rfl, rfl, by rw [sgn_x, tx_len, tx_len]; show _ + 1 ≤ _; omega, ?_⟩
      refine ⟨by show 7 ≤ sizeLine; decide, fun pk npk => ?_⟩
      have sk := same_new (o := .lst [.str (Str.ofString "0" ++ tx u), .str (Str.ofString "-" ++ tx u), .str (tx u ++ Str.ofString "x"), .str (Str.ofString "1000000"), .str (Str.ofString "x"), .str (Str.ofString "1.0"), .str (Str.ofString "+1")]) npk
      have hB6 := hB5.same sk
      have nkb : pk ≠ b := fun z => by rw [z, hB5.1] at npk; cases npk
      refine ⟨b, D, ds, _, pk, _, rfl, hB6, upd_same, nkb, by simp, by show 7 ≤ 100; decide, fun v hv => ?_⟩
      have hB7 := hB6.bump
      obtain ⟨o, rfl, ho⟩ : ∃ o, v = .str (tx o) ∧ o ∈ [48 :: u, 45 :: u, u ++ [120], (Str.ofString "1000000").cps.toList, [120], (Str.ofString "1.0").cps.toList, (Str.ofString "+1").cps.toList] := by
        simp only [List.mem_cons, List.not_mem_nil, or_false] at hv
        rcases hv with rfl | rfl | rfl | rfl | rfl | rfl | rfl
        · exact ⟨48 :: u, by rw [sgn_zero, tx_add]; rfl, by simp⟩
        · exact ⟨45 :: u, by rw [sgn_mi, tx_add]; rfl, by simp⟩
        · exact ⟨u ++ [120], by rw [sgn_x, tx_add], by simp⟩
        · exact ⟨(Str.ofString "1000000").cps.toList, rfl, by simp⟩
        · exact ⟨[120], by rw [sgn_x], by simp⟩
        · exact ⟨(Str.ofString "1.0").cps.toList, rfl, by simp⟩
        · exact ⟨(Str.ofString "+1").cps.toList, rfl, by simp⟩
      obtain ⟨H7, hH7⟩ : ∃ H7, H7 = L2.upd (L2.upd (L2.upd H4 b (.lst [.ref D, .int (n + 1 + 1 + 1 : Nat)])) pk (.lst [.str (Str.ofString "0" ++ tx u), .str (Str.ofString "-" ++ tx u), .str (tx u ++ Str.ofString "x"), .str (Str.ofString "1000000"), .str (Str.ofString "x"), .str (Str.ofString "1.0"), .str (Str.ofString "+1")])) b (.lst [.ref D, .int (n + 1 + 1 + 1 + 1 : Nat)]) := ⟨_, rfl⟩
      have s7 : SmB b H H7 := by rw [hH7]; exact (s4.trans SmB.upd).trans ((SmB.of sk).trans SmB.upd)
      rw [← hH7] at hB7 ⊢
      have hr7 := s7 _ _ nrb hr1
      refine st_go (σ' := [some (.ref b), some (.ref a), some (.int (i : Int)), some (.ref r), some (.int kd), some (.str (tx o)), some (.int (j : Int))]) rfl ?_
      have hJ : ((j : Int) + 1) = ((j + 1 : Nat) : Int) := by omega
      refine el_put3 (K := K) (Evl.ev_var rfl) (s7 _ _ nab ha) (Evl.ev_var rfl) (Evl.ev_op (Evl.ev_var rfl) Evl.ev_c Evl.rv_I0) (el_cat (el_cat (Evl.el_sl (Evl.ev_var rfl) Evl.eo_none (Evl.eo_some (Evl.ev_var rfl)) (SqL.of hr7)) (Evl.el_lst (Evl.ea_cons (Evl.ev_var rfl) Evl.ea_nil) (by show 1 ≤ 100000; decide)) ?_) (Evl.el_sl (Evl.ev_var rfl) (Evl.eo_some (Evl.ev_op (Evl.ev_var rfl) Evl.ev_c Evl.rv_I0)) Evl.eo_none (SqL.of hr7)) ?_) (by rw [lrs]; omega) (Evl.ev_var rfl) Evl.ev_c (fun t l r0 H8 nl nr nt e h1 h2 h3 => ?_)
      · have := cutV_length (wsV ws) none (some (j : Int))
        show _ + 1 ≤ _
        omega
      · have := cutV_length (wsV ws) none (some (j : Int))
        have := cutV_length (wsV ws) (some ((j : Int) + 1)) none
        rw [List.length_append]
        show _ + 1 + _ ≤ _
        omega
      · refine put t l r0 H7 H8 _ (ws.set j o) _ s7 hB7 e nr (.num i j ws o u eL hj1 hu ho) ?_ h2 h3
        rw [h1, cutV_takeE, hJ, cutV_dropE, List.set_eq_take_append_cons_drop, if_pos hj2]
        unfold wsV
        simp
    have s4 := s3.trans (SmB.of e4)
    have hB4 := hB3.same e4
    have ha4 := s4 _ _ nab ha
    obtain ⟨r0, f1, nrb0, hr0⟩ := hR 0 _ (List.getElem?_eq_getElem lL)
    have hr04 := s4 _ _ nrb0 hr0
    have at0 : atI (rs.map V.ref) 0 = some (.ref r0) := atI_nat (j := 0) (by rw [List.getElem?_map, f1]; rfl)
    have tL : ∀ (t l r1 : Addr) (H3 H4 H5 : Hp) (n3 : Nat) (zs : List (List Nat)) (k : Int) (why : Str), SmB b H H4 → BoxAt H4 b D ds n3 → Same H4 H5 → r1 ≠ b → SpL L (L ++ [zs]) k why →
        H5 r1 = some (.lst (wsV zs)) → H5 l = some (.lst (rs.map V.ref ++ [V.ref r1])) → H5 t = some (.lst [.ref l, .int k, .str why]) → Q (.ref t) H5 := by
      intro t l r1 H3 H4 H5 n3 zs k why s4 hB4 e5 nr hS h1 h2 h3
      have s5 := s4.trans (SmB.of e5)
      refine q H5 n3 t l _ k why s5 (hB4.same e5) hS ?_ h3
      refine lns_snoc lr (fun j u hj => ?_) nr h1 (by rw [h2, List.map_append]; rfl)
      obtain ⟨r2, g1, g2, g3⟩ := hR j u hj
      exact ⟨r2, g1, g2, s5 _ _ g2 g3⟩
    refine Evl.s_if (b := PyData.eqv (wsD L[0]) (wsD [kindT 0])) (Evl.et_test (Evl.ev_opL (xs := [.str (kindS 0)]) (Evl.ev_op (Evl.ev_var rfl) Evl.ev_c (Evl.rv_ixL (SqL.of ha4) at0)) (Evl.el_lst (Evl.ea_cons Evl.ev_c Evl.ea_nil) (by decide)) (fun p H1 hp e H2 e2 Q q => ⟨_, _, dp_ws ((e.trans e2) _ _ hr04), dp_ws (by rw [e2 _ _ hp, kindS_tx]; rfl), ws_shaped (hws0 _ (List.getElem_mem lL)), ws_shaped k0_ch, q H2 (Evl.Ex.refl H2)⟩))) (fun c H5 e5 => ?_) (fun c H5 e5 => ?_)
    · rw [ws_eqv, decide_eq_true_eq] at c
      have eL0 : L[0]? = some [kindT 0] := by rw [List.getElem?_eq_getElem lL, c]
      have s5 := s4.trans (SmB.of e5)
      have hB5 := hB4.same e5
      have ha5 := s5 _ _ nab ha
      refine ⟨.ref a, rfl, .ref b, rfl, by show 1 ≤ sizeLine; decide, fun p1 n1 => ⟨by show 3 ≤ sizeLine; decide, fun p2 n2 => ⟨by show 2 ≤ sizeLine; decide, fun p3 n3 => ⟨by show 1 ≤ sizeLine; decide, fun p4 n4 => ⟨by show 4 ≤ sizeLine; decide, fun pk nk => ?_⟩⟩⟩⟩⟩
      have t1 := same_new (o := .lst [.str (Str.ofString "sure")]) n1
      have t2 := same_new (o := .lst [.str (Str.ofString "unsure"), .str (Str.ofString "1"), .str (Str.ofString "2")]) n2
      have t3 := same_new (o := .lst [.str (Str.ofString "faults"), .str (Str.ofString "1")]) n3
      have t4 := same_new (o := .lst [.str (Str.ofString "x")]) n4
      have t5 := same_new (o := .lst [.ref p1, .ref p2, .ref p3, .ref p4]) nk
      have t25 := t2.trans (t3.trans (t4.trans t5))
      have t15 := t1.trans t25
      have v1 := t25 _ _ (upd_same : L2.upd H5 p1 _ p1 = _)
      have v2 := (t3.trans (t4.trans t5)) _ _ (upd_same : L2.upd (L2.upd H5 p1 _) p2 _ p2 = _)
      have v3 := (t4.trans t5) _ _ (upd_same : L2.upd (L2.upd (L2.upd H5 p1 _) p2 _) p3 _ p3 = _)
      have v4 := t5 _ _ (upd_same : L2.upd (L2.upd (L2.upd (L2.upd H5 p1 _) p2 _) p3 _) p4 _ p4 = _)
      obtain ⟨H6, hH6⟩ : ∃ H6, H6 = L2.upd (L2.upd (L2.upd (L2.upd (L2.upd H5 p1 (.lst [.str (Str.ofString "sure")])) p2 (.lst [.str (Str.ofString "unsure"), .str (Str.ofString "1"), .str (Str.ofString "2")])) p3 (.lst [.str (Str.ofString "faults"), .str (Str.ofString "1")])) p4 (.lst [.str (Str.ofString "x")])) pk (.lst [.ref p1, .ref p2, .ref p3, .ref p4]) := ⟨_, rfl⟩
      have vk : H6 pk = some (.lst [.ref p1, .ref p2, .ref p3, .ref p4]) := by rw [hH6]; exact upd_same
      rw [← hH6] at t15 v1 v2 v3 v4 ⊢
      have hB6 := hB5.same t15
      have nob : ∀ {p : Addr} {xs : List Str}, H6 p = some (.lst (xs.map V.str)) → p ≠ b := fun {p xs} h z => by
        rw [z, hB6.1] at h
        injection h with h
        injection h with h
        cases xs with
        | nil => cases h
        | cons x xs => injection h with h _; cases h
      have nkb : pk ≠ b := fun z => by
        rw [z, hB6.1] at vk
        injection vk with vk
        injection vk with vk
        injection vk with _ vk
        injection vk with _ vk
        cases vk
      refine ⟨b, D, ds, _, pk, _, rfl, hB6, vk, nkb, by simp, by show 4 ≤ 100; decide, fun v hv => ?_⟩
      have hB7 := hB6.bump
      have k1 := nob (xs := [Str.ofString "sure"]) v1
      have k2 := nob (xs := [Str.ofString "unsure", Str.ofString "1", Str.ofString "2"]) v2
      have k3 := nob (xs := [Str.ofString "faults", Str.ofString "1"]) v3
      have k4 := nob (xs := [Str.ofString "x"]) v4
      obtain ⟨r1, zs, rfl, nr1, h1, hz⟩ : ∃ r1 zs, v = .ref r1 ∧ r1 ≠ b ∧ H6 r1 = some (.lst (wsV zs)) ∧ zs ∈ [[kindT 0], [kindT 1, [49], [50]], [kindT 3, [49]], [[120]]] := by
        simp only [List.mem_cons, List.not_mem_nil, or_false] at hv
        rcases hv with rfl | rfl | rfl | rfl
        · exact ⟨p1, [kindT 0], rfl, k1, by rw [v1]; exact congrArg (fun x => some (HO.lst x)) app_0, by simp⟩
        · exact ⟨p2, [kindT 1, [49], [50]], rfl, k2, by rw [v2]; exact congrArg (fun x => some (HO.lst x)) app_1, by simp⟩
        · exact ⟨p3, [kindT 3, [49]], rfl, k3, by rw [v3]; exact congrArg (fun x => some (HO.lst x)) app_2, by simp⟩
        · exact ⟨p4, [[120]], rfl, k4, by rw [v4]; exact congrArg (fun x => some (HO.lst x)) app_3, by simp⟩
      have s7 := (s5.trans (SmB.of t15)).trans (SmB.upd (H := H6) (x := b) (o := .lst [.ref D, .int (n + 1 + 1 + 1 : Nat)]))
      have h17 := (SmB.upd (H := H6) (x := b) (o := .lst [.ref D, .int (n + 1 + 1 + 1 : Nat)])) _ _ nr1 h1
      obtain ⟨H7, hH7⟩ : ∃ H7, H7 = L2.upd H6 b (.lst [.ref D, .int (n + 1 + 1 + 1 : Nat)]) := ⟨_, rfl⟩
      rw [← hH7] at s7 h17 hB7 ⊢
      have ha7 := s7 _ _ nab ha
      refine ⟨by show 1 ≤ sizeLine; decide, fun m nm => ?_⟩
      have u1 := same_new (o := .lst [.ref r1]) nm
      refine ⟨a, m, _, _, rfl, rfl, u1 _ _ ha7, upd_same, Nat.le_trans (show _ ≤ 100 by rw [lrs]; show _ + 1 ≤ _; omega) (by decide), fun l nl => ?_⟩
      have u2 := u1.trans (same_new (o := .lst (rs.map V.ref ++ [.ref r1])) nl)
      refine ⟨.ref a, rfl, a, _, rfl, .inl (SqL.of (u2 _ _ ha7)), by show 3 ≤ sizeLine; decide, fun t nt => ?_⟩
      have u3 := same_new (o := .lst [.ref l, .int ((rs.map V.ref).length : Int), .str (Str.ofString "unknown line")]) nt
      refine tL t l r1 H7 H7 _ _ zs _ _ s7 hB7 (u2.trans u3) nr1 (.sure zs eL0 hz) ((u2.trans u3) _ _ h17) (u3 _ _ upd_same) ?_
      rw [upd_same, lrs]
    have c : ¬ L[0]? = some [kindT 0] := fun z => by
      rw [List.getElem?_eq_getElem lL] at z
      rw [Option.some.inj z, ws_eqv, decide_eq_true rfl] at c
      cases c
    have s5 := s4.trans (SmB.of e5)
    have hB5 := hB4.same e5
    have ha5 := s5 _ _ nab ha
    refine ⟨.int kd, rfl, rfl, _, rfl, ite2 (fun c4 => ?_) (fun c4 => ?_)⟩
    · refine ⟨.ref a, rfl, 1, rfl, a, _, rfl, SqL.of ha5, fun l nl => ⟨_, _, rfl, rfl, by show 3 ≤ sizeLine; decide, fun t nt => ?_⟩⟩
      have u1 := same_new (o := .lst (cutV (rs.map V.ref) none (some 1))) nl
      have u2 := same_new (o := .lst [.ref l, .int (0 - 1), .str (Str.ofString "faults expected")]) nt
      have s6 := s5.trans (SmB.of (u1.trans u2))
      refine q _ _ t l _ (-1) _ s6 (hB5.same (u1.trans u2)) (.short c) ⟨rs.take 1, ?_, by rw [List.length_take, List.length_take, lr], fun j u hj => ?_⟩ upd_same
      · rw [u2 _ _ upd_same, List.map_take]; exact congrArg (fun x => some (HO.lst x)) (cutV_takeE (rs.map V.ref) 1)
      · rw [List.getElem?_take] at hj
        split at hj
        · rename_i hlt
          obtain ⟨r2, g1, g2, g3⟩ := hR j u hj
          exact ⟨r2, by rw [List.getElem?_take, if_pos hlt]; exact g1, g2, s6 _ _ g2 g3⟩
        · cases hj
    obtain ⟨w1, e1L⟩ : ∃ w1, L[1]? = some w1 := ⟨_, List.getElem?_eq_getElem (by have := hL2 c; omega)⟩
    obtain ⟨q1, g1, nq1, hq1⟩ := hR 1 w1 e1L
    refine ⟨.ref a, rfl, .ref b, rfl, by show 1 ≤ sizeLine; decide, fun p1 n1 => ⟨by show 3 ≤ sizeLine; decide, fun p2 n2 => ⟨by show 2 ≤ sizeLine; decide, fun p3 n3 => ?_⟩⟩⟩
    have t1 := same_new (o := .lst [.str (Str.ofString "sure")]) n1
    have t2 := same_new (o := .lst [.str (Str.ofString "unsure"), .str (Str.ofString "1"), .str (Str.ofString "2")]) n2
    have t3 := same_new (o := .lst [.str (Str.ofString "prices"), .str (Str.ofString "1")]) n3
    have t13 := t1.trans (t2.trans t3)
    refine ⟨.ref a, rfl, a, _, 1, .ref q1, rfl, rfl, SqL.of (t13 _ _ ha5), atI_nat (j := 1) (by rw [List.getElem?_map, g1]; rfl), by show 4 ≤ sizeLine; decide, fun pk nk => ?_⟩
    have t5 := same_new (o := .lst [.ref p1, .ref p2, .ref p3, .ref q1]) nk
    have t25 := t2.trans (t3.trans t5)
    have t15 := t1.trans t25
    have v1 := t25 _ _ (upd_same : L2.upd H5 p1 _ p1 = _)
    have v2 := (t3.trans t5) _ _ (upd_same : L2.upd (L2.upd H5 p1 _) p2 _ p2 = _)
    have v3 := t5 _ _ (upd_same : L2.upd (L2.upd (L2.upd H5 p1 _) p2 _) p3 _ p3 = _)
    have v4 := (s5.trans (SmB.of t15)) _ _ nq1 hq1
    obtain ⟨H6, hH6⟩ : ∃ H6, H6 = L2.upd (L2.upd (L2.upd (L2.upd H5 p1 (.lst [.str (Str.ofString "sure")])) p2 (.lst [.str (Str.ofString "unsure"), .str (Str.ofString "1"), .str (Str.ofString "2")])) p3 (.lst [.str (Str.ofString "prices"), .str (Str.ofString "1")])) pk (.lst [.ref p1, .ref p2, .ref p3, .ref q1]) := ⟨_, rfl⟩
    have vk : H6 pk = some (.lst [.ref p1, .ref p2, .ref p3, .ref q1]) := by rw [hH6]; exact upd_same
    rw [← hH6] at t15 v1 v2 v3 v4 ⊢
    have hB6 := hB5.same t15
    have nob : ∀ {p : Addr} {xs : List Str}, H6 p = some (.lst (xs.map V.str)) → p ≠ b := fun {p xs} h z => by
      rw [z, hB6.1] at h
      injection h with h
      injection h with h
      cases xs with
      | nil => cases h
      | cons x xs => injection h with h _; cases h
    have nkb : pk ≠ b := fun z => by
      rw [z, hB6.1] at vk
      injection vk with vk
      injection vk with vk
      injection vk with _ vk
      injection vk with _ vk
      cases vk
    refine ⟨b, D, ds, _, pk, _, rfl, hB6, vk, nkb, by simp, by show 4 ≤ 100; decide, fun v hv => ?_⟩
    have hB7 := hB6.bump
    have k1 := nob (xs := [Str.ofString "sure"]) v1
    have k2 := nob (xs := [Str.ofString "unsure", Str.ofString "1", Str.ofString "2"]) v2
    have k3 := nob (xs := [Str.ofString "prices", Str.ofString "1"]) v3
    obtain ⟨r1, zs, rfl, nr1, h1, hz⟩ : ∃ r1 zs, v = .ref r1 ∧ r1 ≠ b ∧ H6 r1 = some (.lst (wsV zs)) ∧ zs ∈ [[kindT 0], [kindT 1, [49], [50]], [kindT 2, [49]], w1] := by
      simp only [List.mem_cons, List.not_mem_nil, or_false] at hv
      rcases hv with rfl | rfl | rfl | rfl
      · exact ⟨p1, [kindT 0], rfl, k1, by rw [v1]; exact congrArg (fun x => some (HO.lst x)) app_0, by simp⟩
      · exact ⟨p2, [kindT 1, [49], [50]], rfl, k2, by rw [v2]; exact congrArg (fun x => some (HO.lst x)) app_1, by simp⟩
      · exact ⟨p3, [kindT 2, [49]], rfl, k3, by rw [v3]; exact congrArg (fun x => some (HO.lst x)) app_4, by simp⟩
      · exact ⟨q1, w1, rfl, nq1, v4, by simp⟩
    have s7 := (s5.trans (SmB.of t15)).trans (SmB.upd (H := H6) (x := b) (o := .lst [.ref D, .int (n + 1 + 1 + 1 : Nat)]))
    have h17 := (SmB.upd (H := H6) (x := b) (o := .lst [.ref D, .int (n + 1 + 1 + 1 : Nat)])) _ _ nr1 h1
    obtain ⟨H7, hH7⟩ : ∃ H7, H7 = L2.upd H6 b (.lst [.ref D, .int (n + 1 + 1 + 1 : Nat)]) := ⟨_, rfl⟩
    rw [← hH7] at s7 h17 hB7 ⊢
    have ha7 := s7 _ _ nab ha
    refine ⟨by show 1 ≤ sizeLine; decide, fun m nm => ?_⟩
    have u1 := same_new (o := .lst [.ref r1]) nm
    refine ⟨a, m, _, _, rfl, rfl, u1 _ _ ha7, upd_same, Nat.le_trans (show _ ≤ 100 by rw [lrs]; show _ + 1 ≤ _; omega) (by decide), fun l nl => ?_⟩
    have u2 := u1.trans (same_new (o := .lst (rs.map V.ref ++ [.ref r1])) nl)
    refine ⟨by show 3 ≤ sizeLine; decide, fun t nt => ?_⟩
    have u3 := same_new (o := .lst [.ref l, .int 2, .str (Str.ofString "unknown line")]) nt
    refine tL t l r1 H7 H7 _ _ zs _ _ s7 hB7 (u2.trans u3) nr1 (.long zs w1 c e1L hz) ((u2.trans u3) _ _ h17) (u3 _ _ upd_same) upd_same
end
end Fd

set_option autoImplicit false
set_option Elab.async false
set_option linter.all false
set_option maxRecDepth 100000
set_option maxHeartbeats 4000000
/-! what is read of the texts: as mathematics -/
namespace Fd
open PySem PySem.Spec PyProof.Rows L2 RZ TL
def rowZ (z : Nat × List Int) : List (List Nat) := nrow z.1 z.2
theorem linesP_Z (pa : Pap) : linesP pa = (krP pa).map rowZ := linesP_kr pa
/-! ### numbers -/
theorem numL_zero : ∀ n : Nat, (numL n)[0]? = some 48 → n = 0 := by
  intro n
  induction n using Nat.strongRecOn with
  | _ n ih =>
    intro h
    by_cases c : n < 10
    · rw [numL_lt c] at h
      have h : some (48 + n) = some 48 := h
      injection h with h
      omega
    · rw [numL_step (by omega)] at h
      have hp : 0 < (numL (n / 10)).length := List.length_pos_iff.mpr (numL_ne _)
      rw [List.getElem?_append_left hp] at h
      have := ih (n / 10) (by omega) h
      omega
theorem numB_numT {x : Int} (h0 : 0 ≤ x) (h : x ≤ 999999) : numB (numT x) = true := by
  unfold numB
  have a : 1 ≤ (numT x).length ∧ (numT x).length ≤ 6 := ⟨List.length_pos_iff.mpr (numL_ne _), numT_len h0 h⟩
  have b : (numT x).all digB = true := List.all_eq_true.mpr fun c hc => (digB_iff c).mpr (numL_digits _ c hc)
  rw [decide_eq_true a, b, Bool.true_and, Bool.true_and, Bool.or_eq_true, decide_eq_true_eq, decide_eq_true_eq]
  by_cases c : (numT x)[0]? = some 48
  · have z := numL_zero _ c
    refine .inl ?_
    show numL x.toNat = _
    rw [z]
    decide +kernel
  · exact .inr c
theorem valN_numT {x : Int} (h0 : 0 ≤ x) : valN (numT x) = x := by
  unfold valN numT
  rw [numL_val]
  omega
theorem row_nums {row : List Int} (h : okN row) : (row.map numT).all numB = true ∧ (row.map numT).map valN = row := by
  obtain ⟨_, h⟩ := h
  refine ⟨List.all_eq_true.mpr fun w hw => ?_, ?_⟩
  · obtain ⟨x, hx, rfl⟩ := List.mem_map.mp hw
    exact numB_numT (h x hx).1 (h x hx).2
  · rw [List.map_map]
    refine (List.map_congr_left fun x hx => ?_).trans (List.map_id _)
    exact valN_numT (h x hx).1
/-! ### rows read one by one -/
def goS (many : Int) : List Nat → List (Nat × List Int) → Prop
  | _, [] => True
  | ks, z :: r => z.1 ∈ kb ks ∧ (z.2.length : Int) = cntK z.1 many ∧ okN z.2 ∧ goS many (ks ++ [z.1]) r
theorem kb_find {ks : List Nat} {k : Nat} (h : k ∈ kb ks) : (kb ks).find? (fun j => decide (kindT j = kindT k)) = some k := by
  unfold kb at h ⊢
  split at h
  · rcases List.mem_cons.mp h with rfl | h
    · decide
    · rw [List.mem_singleton.mp h]; decide
  · rw [List.mem_singleton.mp h]; decide
  · rw [List.mem_singleton.mp h]; decide
  · cases h
theorem parse_one {many : Int} {ks : List Nat} {k : Nat} (h : k ∈ kb ks) (n : Int) (ws : List (List Nat)) (r : List Rr) (ts : List (List Int)) :
    parseR many ((n, kindT k :: ws) :: r) ks ts = if (ws.length : Int) = cntK k many then (if ws.all numB = true then parseR many r (ks ++ [k]) (ts ++ [ws.map valN]) else .error (n, "not a number")) else .error (n, "wrong number of words") := by
  conv => lhs; unfold parseR
  rw [kb_find h]
theorem parse_pre {many : Int} : ∀ (Z : List (Nat × List Int)) (ns : List Int) (rest : List Rr) (ks : List Nat) (ts : List (List Int)), ns.length = Z.length → goS many ks Z →
    parseR many (ns.zip (Z.map rowZ) ++ rest) ks ts = parseR many rest (ks ++ Z.map (·.1)) (ts ++ Z.map (·.2)) := by
  intro Z
  induction Z with
  | nil =>
    intro ns rest ks ts hl _
    rw [List.length_eq_zero_iff.mp hl, List.map_nil, List.map_nil, List.map_nil, List.append_nil, List.append_nil]
    rfl
  | cons z Z ih =>
    intro ns rest ks ts hl hg
    obtain ⟨h1, h2, h3, h4⟩ := hg
    match ns, hl with
    | n :: ns, hl =>
      rw [List.map_cons, List.zip_cons_cons, List.cons_append]
      show parseR many ((n, kindT z.1 :: z.2.map numT) :: _) ks ts = _
      rw [parse_one h1, if_pos (by rw [List.length_map]; exact h2), if_pos (row_nums h3).1, (row_nums h3).2, ih ns rest _ _ (by simpa using hl) h4]
      simp
theorem goS_take {many : Int} : ∀ (Z : List (Nat × List Int)) (ks : List Nat) (i : Nat), goS many ks Z → goS many ks (Z.take i) := by
  intro Z
  induction Z with
  | nil => intro ks i h; rw [List.take_nil]; trivial
  | cons z Z ih =>
    intro ks i h
    cases i with
    | zero => trivial
    | succ i => exact ⟨h.1, h.2.1, h.2.2.1, ih _ i h.2.2.2⟩
theorem goS_at {many : Int} : ∀ (Z : List (Nat × List Int)) (ks : List Nat) (i : Nat) (z : Nat × List Int), goS many ks Z → Z[i]? = some z →
    z.1 ∈ kb (ks ++ (Z.take i).map (·.1)) ∧ (z.2.length : Int) = cntK z.1 many ∧ okN z.2 := by
  intro Z
  induction Z with
  | nil => intro ks i z _ e; cases e
  | cons y Z ih =>
    intro ks i z h e
    cases i with
    | zero =>
      cases e
      exact ⟨by rw [List.take_zero, List.map_nil, List.append_nil]; exact h.1, h.2.1, h.2.2.1⟩
    | succ i =>
      have := ih (ks ++ [y.1]) i z h.2.2.2 e
      rw [List.append_assoc] at this
      exact this
theorem zip_set {ns : List Int} {L : List (List (List Nat))} {i : Nat} {n : Int} {x : List (List Nat)} (hl : ns.length = L.length) (hn : ns[i]? = some n) :
    ns.zip (L.set i x) = (ns.take i).zip (L.take i) ++ (n, x) :: (ns.drop (i + 1)).zip (L.drop (i + 1)) := by
  obtain ⟨hi, e⟩ := List.getElem?_eq_some_iff.mp hn
  have e1 : ns = ns.take i ++ n :: ns.drop (i + 1) := by rw [← e, List.getElem_cons_drop, List.take_append_drop]
  rw [List.set_eq_take_append_cons_drop, if_pos (by omega)]
  conv => lhs; rw [e1]
  rw [List.zip_append (by rw [List.length_take, List.length_take, hl]), List.zip_cons_cons]
theorem parse_bad {many : Int} {Z : List (Nat × List Int)} {ns : List Int} {i : Nat} {x : List (List Nat)} {why : Str} {n : Int} (hg : goS many [] Z) (hl : ns.length = Z.length) (hn : ns[i]? = some n)
    (hb : ∀ r ts, parseR many ((n, x) :: r) ((Z.take i).map (·.1)) ts = .error (n, why)) : parseR many (ns.zip ((Z.map rowZ).set i x)) [] [] = .error (n, why) := by
  rw [zip_set (by rw [List.length_map]; exact hl) hn, ← List.map_take, parse_pre _ _ _ _ _ (by rw [List.length_take, List.length_take, hl]) (goS_take _ _ _ hg), List.nil_append]
  exact hb _ _
theorem parse_tail {many : Int} {Z : List (Nat × List Int)} {ns : List Int} {x : List (List Nat)} {why : Str} {n : Int} (hg : goS many [] Z) (hl : ns.length = Z.length + 1) (hn : ns[Z.length]? = some n)
    (hb : ∀ r ts, parseR many ((n, x) :: r) (Z.map (·.1)) ts = .error (n, why)) : parseR many (ns.zip (Z.map rowZ ++ [x])) [] [] = .error (n, why) := by
  obtain ⟨hi, e⟩ := List.getElem?_eq_some_iff.mp hn
  have e1 : ns = ns.take Z.length ++ [n] := by
    have t := List.take_add_one (l := ns) (i := Z.length)
    rw [hn, List.take_of_length_le (by omega)] at t
    exact t
  rw [e1, List.zip_append (by rw [List.length_take, List.length_map]; omega), parse_pre _ _ _ _ _ (by rw [List.length_take]; omega) hg, List.nil_append]
  exact hb _ _
/-! ### the paper itself -/
theorem goS_pr {many : Int} : ∀ (R : List (List Int)) (ks : List Nat), (∀ row ∈ R, (row.length : Int) = many ∧ okN row) → goS many (0 :: ks) (R.map fun row => (2, row)) := by
  intro R
  induction R with
  | nil => intro ks _; trivial
  | cons r R ih =>
    intro ks h
    exact ⟨(List.mem_singleton.mpr rfl : 2 ∈ [2]), (h r (by simp)).1, (h r (by simp)).2, (ih (ks ++ [2]) fun x hx => h x (by simp [hx]) : goS many (0 :: (ks ++ [2])) _)⟩
theorem goS_pa {many : Nat} {pa : Pap} (hg : PaG pa) (hw : PaW many pa) : goS many [] (krP pa) := by
  cases pa with
  | sure R => exact ⟨(by decide : 0 ∈ kb []), rfl, ⟨by decide, fun _ h => nomatch h⟩, goS_pr R [] fun row hr => ⟨by rw [hw row hr], (hg.s R rfl).2 row hr⟩⟩
  | uns a b =>
    obtain ⟨h1, h2, h3⟩ := hg.u a b rfl
    refine ⟨(by decide : 1 ∈ kb []), by show (a.length : Int) = 2; rw [h1]; rfl, h2, ?_, ?_, h3, trivial⟩
    · show 3 ∈ kb [1]
      decide
    · show (b.length : Int) = many
      rw [show b.length = many from hw]
theorem end_pa (last : Int) (pa : Pap) (hg : PaG pa) : endR last ((krP pa).map (·.1), (krP pa).map (·.2)) = .ok pa := by
  cases pa with
  | sure R =>
    show Except.ok (Pap.sure ((([] : List Int) :: (R.map fun row => ((2 : Nat), row)).map (·.2)).drop 1)) = _
    rw [List.drop_one, List.tail_cons, List.map_map]
    exact congrArg (fun z => Except.ok (Pap.sure z)) (List.map_id _)
  | uns a b => rfl
theorem parse_pa {many : Nat} {pa : Pap} (hg : PaG pa) (hw : PaW many pa) {ns : List Int} (hl : ns.length = (linesP pa).length) : parseR many (ns.zip (linesP pa)) [] [] = .ok ((krP pa).map (·.1), (krP pa).map (·.2)) := by
  have := parse_pre (krP pa) ns [] [] [] (by rw [hl, linesP_Z, List.length_map]) (goS_pa hg hw)
  rw [List.append_nil, List.nil_append, List.nil_append, ← linesP_Z] at this
  exact this
theorem parseF_ok {l : List Nat} {many : Int} {rows : List Rr} {x : List Nat × List (List Int)} (hc : chOk l 10000 = true) (hr : rowsF l = rows) (hp : parseR many rows [] [] = .ok x) : parseF l many = endR ((linesL l).length : Int) x := by
  unfold parseF
  rw [if_pos hc, hr, hp]
theorem parseF_err {l : List Nat} {many : Int} {rows : List Rr} {e : Int × Str} (hc : chOk l 10000 = true) (hr : rowsF l = rows) (hp : parseR many rows [] [] = .error e) : parseF l many = .error e := by
  unfold parseF
  rw [if_pos hc, hr, hp]
theorem TxG.ch {ls : List (List Nat)} {ns : List Int} {Ls : List (List (List Nat))} {z : Nat} (h : TxG ls ns Ls z) (hz : z ≤ 10000) : chOk (txL ls) 10000 = true := by
  unfold chOk
  have := h.z
  rw [decide_eq_false (by omega), h.m]
  rfl
theorem TxG.rows {ls : List (List Nat)} {ns : List Int} {Ls : List (List (List Nat))} {z : Nat} (h : TxG ls ns Ls z) : rowsF (txL ls) = ns.zip Ls := by rw [rows_tx h.n, h.r]
theorem parse_text {many : Nat} {pa : Pap} (hg : PaG pa) (hw : PaW many pa) {ls : List (List Nat)} {ns : List Int} {z : Nat} (h : TxG ls ns (linesP pa) z) (hz : z ≤ 10000) : parseF (txL ls) many = .ok pa := by
  rw [parseF_ok (h.ch hz) h.rows (parse_pa hg hw h.l)]
  exact end_pa _ pa hg
/-! ### the words of the lines -/
theorem wdG_of {w : List Nat} (h : w ≠ [] ∧ w.length ≤ 20 ∧ ∀ c ∈ w, 33 ≤ c ∧ c ≤ 126 ∧ c ≠ 37 ∧ c ≠ 35) : WdG w := by
  obtain ⟨h1, h2, h3⟩ := h
  have sp : ∀ c, 33 ≤ c → c ≤ 126 → Unicode.isSpace c = false := by
    intro c a b
    have : ∀ c < 127, 33 ≤ c → Unicode.isSpace c = false := by decide +kernel
    exact this c (by omega) a
  refine ⟨⟨h1, fun c hc => sp c (h3 c hc).1 (h3 c hc).2.1, ?_⟩, List.all_eq_true.mpr fun c hc => ?_, h2⟩
  · unfold hashB
    refine decide_eq_false fun z => ?_
    exact (h3 35 (List.mem_of_getElem? z)).2.2.2 rfl
  · obtain ⟨a, b, d, _⟩ := h3 c hc
    unfold mayB
    rw [Bool.or_eq_true, Bool.and_eq_true]
    exact .inr ⟨decide_eq_true (by omega), decide_eq_true d⟩
theorem kindT_good : ∀ k : Nat, WdG (kindT k)
  | 0 => wdG_of (by decide)
  | 1 => wdG_of (by decide)
  | 2 => wdG_of (by decide)
  | _ + 3 => wdG_of (w := [102, 97, 117, 108, 116, 115]) (by decide)
theorem numT_cs {x : Int} : ∀ c ∈ numT x, 48 ≤ c ∧ c ≤ 57 := numL_digits _
theorem numT_good {x : Int} (h0 : 0 ≤ x) (h : x ≤ 999999) : WdG (numT x) :=
  wdG_of ⟨numL_ne _, by have := numT_len h0 h; omega, fun c hc => by have := numT_cs c hc; omega⟩
/-- a line of the paper's: 7 words at most -/
theorem linesP_good {many : Nat} {pa : Pap} (hg : PaG pa) (hw : PaW many pa) (m6 : many ≤ 6) : (linesP pa).length ≤ 10 ∧ ∀ ws ∈ linesP pa, WsG ws ∧ ws.length ≤ 7 := by
  obtain ⟨l1, l2⟩ := krP_ok hg
  refine ⟨by rw [linesP_Z, List.length_map]; exact l1, fun ws hws => ?_⟩
  rw [linesP_Z] at hws
  obtain ⟨z, hz, rfl⟩ := List.mem_map.mp hws
  obtain ⟨i, hi, e⟩ := List.getElem_of_mem hz
  have e : (krP pa)[i]? = some z := by rw [List.getElem?_eq_getElem hi, e]
  obtain ⟨a1, a2, a3⟩ := goS_at _ _ _ _ (goS_pa hg hw) e
  have c6 : ∀ k, cntK k (many : Int) ≤ 6 := by
    intro k
    unfold cntK
    split
    · decide
    · decide
    · omega
  have := c6 z.1
  have l7 : (rowZ z).length ≤ 7 := by
    show (z.2.map numT).length + 1 ≤ 7
    rw [List.length_map]
    omega
  refine ⟨⟨List.cons_ne_nil _ _, by omega, fun w hw => ?_⟩, l7⟩
  rcases List.mem_cons.mp hw with rfl | hw
  · exact kindT_good _
  · obtain ⟨x, hx, rfl⟩ := List.mem_map.mp hw
    exact numT_good (a3.2 x hx).1 (a3.2 x hx).2
theorem linesP_ne (pa : Pap) : linesP pa ≠ [] := by
  cases pa with
  | sure R => exact List.cons_ne_nil _ _
  | uns a b => exact List.cons_ne_nil _ _
/-! ### the plain text -/
theorem jn_mem : ∀ (ws : List (List Nat)) (c : Nat), c ∈ jn ws → c = 32 ∨ ∃ w ∈ ws, c ∈ w := by
  intro ws
  induction ws with
  | nil => intro c h; cases h
  | cons w ws ih =>
    intro c h
    cases ws with
    | nil => exact .inr ⟨w, by simp, h⟩
    | cons v ws =>
      have h : c ∈ w ++ ([32] ++ jn (v :: ws)) := h
      rcases List.mem_append.mp h with h | h
      · exact .inr ⟨w, by simp, h⟩
      · rcases List.mem_append.mp h with h | h
        · exact .inl (List.mem_singleton.mp h)
        · rcases ih c h with z | ⟨u, hu, z⟩
          · exact .inl z
          · exact .inr ⟨u, by simp only [List.mem_cons] at hu ⊢; exact .inr hu, z⟩
theorem jn_good {ws : List (List Nat)} (h : WsG ws) : LnG ws (jn ws) := by
  refine ⟨?_, ?_, fun z => ?_, ?_⟩
  · unfold lwL wsL jn
    rw [wfold_join ws [] h.ne fun p hp => ⟨(h.g p hp).g.1, (h.g p hp).g.2.1⟩, List.nil_append]
    have : ∀ ws : List (List Nat), (∀ w ∈ ws, hashB w = false) → ws.takeWhile (fun w => !hashB w) = ws := by
      intro ws
      induction ws with
      | nil => intro _; rfl
      | cons w ws ih =>
        intro g
        rw [List.takeWhile_cons, g w (by simp), ih fun x hx => g x (by simp [hx])]
        rfl
    exact this ws fun w hw => (h.g w hw).g.2.2
  · refine List.all_eq_true.mpr fun c hc => ?_
    rcases jn_mem ws c hc with rfl | ⟨w, hw, hc⟩
    · decide
    · exact List.all_eq_true.mp (h.g w hw).m c hc
  · rcases jn_mem ws 10 z with z | ⟨w, hw, hc⟩
    · cases z
    · exact no10 (h.g w hw) hc
  · have := jn_len (c := 20) ws fun w hw => (h.g w hw).z
    omega
theorem txG_nil : TxG [] [] [] 0 := ⟨fun l h => (nomatch h), rfl, rfl, rfl, Nat.le_refl 0⟩
theorem txG_plain (Ls : List (List (List Nat))) (h : ∀ ws ∈ Ls, WsG ws) : ∀ k, k ≤ Ls.length → ∃ ns, TxG ((Ls.take k).map jn) ns (Ls.take k) (400 * k) := by
  intro k
  induction k with
  | zero => exact fun _ => ⟨[], txG_nil⟩
  | succ k ih =>
    intro hk
    obtain ⟨ns, t⟩ := ih (by omega)
    have hm := h _ (List.getElem_mem (show k < Ls.length by omega))
    have t2 := t.line (jn_good hm) hm.ne
    have := hm.z
    refine ⟨_, by rw [List.take_add_one, List.getElem?_eq_getElem (show k < Ls.length by omega), Option.toList_some, List.map_append]; exact ⟨t2.n, t2.m, t2.r, t2.l, Nat.le_trans t2.z (by omega)⟩⟩
theorem parse_plain {many : Nat} {pa : Pap} (hg : PaG pa) (hw : PaW many pa) (m6 : many ≤ 6) : parseF (txL ((linesP pa).map jn)) many = .ok pa ∧ (txL ((linesP pa).map jn)).length ≤ 4000 := by
  obtain ⟨l1, l2⟩ := linesP_good hg hw m6
  obtain ⟨ns, t⟩ := txG_plain (linesP pa) (fun ws h => (l2 ws h).1) _ (Nat.le_refl _)
  rw [List.take_length] at t
  exact ⟨parse_text hg hw t (by omega), by have := t.z; omega⟩
/-! ### the text without its last newline -/
theorem txL_join : ∀ ls : List (List Nat), ls ≠ [] → (txL ls).take ((txL ls).length - 1) = joinL [10] ls := by
  intro ls
  have a : ∀ ls : List (List Nat), ls ≠ [] → txL ls = joinL [10] ls ++ [10] := by
    intro ls
    induction ls with
    | nil => exact fun h => absurd rfl h
    | cons x ls ih =>
      intro _
      cases ls with
      | nil => show (x ++ [10]) ++ [] = _; rw [List.append_nil]; rfl
      | cons y ls =>
        show (x ++ [10]) ++ txL (y :: ls) = (x ++ ([10] ++ joinL [10] (y :: ls))) ++ [10]
        rw [ih (List.cons_ne_nil _ _)]
        simp
  intro h
  rw [a ls h, List.length_append, List.length_singleton, Nat.add_sub_cancel, List.take_left]
theorem parse_cut {many : Nat} {pa : Pap} (hg : PaG pa) (hw : PaW many pa) (m6 : many ≤ 6) {l : List Nat} (e : l = txL ((linesP pa).map jn)) : parseF (l.take (l.length - 1)) many = .ok pa := by
  subst e
  obtain ⟨l1, l2⟩ := linesP_good hg hw m6
  obtain ⟨ns, t⟩ := txG_plain (linesP pa) (fun ws h => (l2 ws h).1) _ (Nat.le_refl _)
  rw [List.take_length] at t
  have ne : (linesP pa).map jn ≠ [] := fun z => linesP_ne pa (List.map_eq_nil_iff.mp z)
  have hc := t.ch (by omega)
  rw [txL_join _ ne]
  have e2 := txL_join _ ne
  have hc2 : chOk (joinL [10] ((linesP pa).map jn)) 10000 = true := by
    unfold chOk at hc ⊢
    rw [Bool.and_eq_true, Bool.not_eq_true', decide_eq_false_iff_not] at hc ⊢
    rw [← e2]
    refine ⟨by rw [List.length_take]; omega, List.all_eq_true.mpr fun c h => List.all_eq_true.mp hc.2 c (List.mem_of_mem_take h)⟩
  have hl : linesL (joinL [10] ((linesP pa).map jn)) = (linesP pa).map jn := spl_join ne t.n
  have hr : rowsF (joinL [10] ((linesP pa).map jn)) = ns.zip (linesP pa) := by rw [rowsF_A, hl, t.r]
  rw [parseF_ok hc2 hr (parse_pa hg hw t.l)]
  exact end_pa _ pa hg
/-! ### one fault -/
theorem ks_cases (pa : Pap) (i : Nat) (hi : i < (krP pa).length) : (i = 0 ∧ kb (((krP pa).take i).map (·.1)) = [0, 1]) ∨ ((∃ R, pa = .sure R) ∧ kb (((krP pa).take i).map (·.1)) = [2]) ∨ ((∃ a b, pa = .uns a b) ∧ kb (((krP pa).take i).map (·.1)) = [3]) := by
  cases i with
  | zero => exact .inl ⟨rfl, rfl⟩
  | succ i =>
    cases pa with
    | sure R => exact .inr (.inl ⟨⟨R, rfl⟩, rfl⟩)
    | uns a b =>
      cases i with
      | zero => exact .inr (.inr ⟨⟨a, b, rfl⟩, rfl⟩)
      | succ i => exact absurd hi (by show ¬ i + 1 + 1 < 2; omega)
theorem parse_unk {many : Int} {ks : List Nat} {o : List Nat} (h : (kb ks).find? (fun j => decide (kindT j = o)) = none) (n : Int) (ws : List (List Nat)) (r : List Rr) (ts : List (List Int)) : parseR many ((n, o :: ws) :: r) ks ts = .error (n, "unknown line") := by
  unfold parseR
  rw [h]
theorem odd_no : ∀ o ∈ [(Str.ofString "Sure").cps.toList, (Str.ofString "price").cps.toList, (Str.ofString "fault").cps.toList, (Str.ofString "0").cps.toList, (Str.ofString "paper").cps.toList, (Str.ofString "sures").cps.toList], ∀ k < 4, kindT k ≠ o := by decide +kernel
theorem odd_num {u : List Nat} (hu : numB u = true) : ∀ o ∈ [48 :: u, 45 :: u, u ++ [120], (Str.ofString "1000000").cps.toList, [120], (Str.ofString "1.0").cps.toList, (Str.ofString "+1").cps.toList], numB o = false := by
  have h7 : ∀ o ∈ [(Str.ofString "1000000").cps.toList, [120], (Str.ofString "1.0").cps.toList, (Str.ofString "+1").cps.toList], numB o = false := by decide +kernel
  intro o ho
  have no : ∀ c ∈ o, digB c = false → numB o = false := by
    intro c hc hd
    unfold numB
    have : o.all digB = false := List.all_eq_false.mpr ⟨c, hc, by rw [hd]; decide⟩
    rw [this, Bool.false_and, Bool.and_false]
  rcases List.mem_cons.mp ho with rfl | ho
  · unfold numB at hu ⊢
    rw [Bool.and_eq_true, decide_eq_true_eq] at hu
    have h1 : decide ((48 : Nat) :: u = [48]) = false := decide_eq_false fun z => by
      injection z with _ z
      rw [z] at hu
      exact absurd hu.1.1 (by decide)
    have h2 : decide (((48 : Nat) :: u)[0]? ≠ some 48) = false := decide_eq_false fun z => z rfl
    rw [h1, h2, Bool.false_or, Bool.and_false, Bool.and_false]
  rcases List.mem_cons.mp ho with rfl | ho
  · exact no 45 (by simp) (by decide +kernel)
  rcases List.mem_cons.mp ho with rfl | ho
  · exact no 120 (by simp) (by decide +kernel)
  exact h7 o ho
/-- the text with one fault: the line of the fault, and the reason -/
theorem parse_spoilt {many : Nat} {pa : Pap} (hg : PaG pa) (hw : PaW many pa) {L : List (List (List Nat))} {i : Int} {why : Str} (hs : SpL (linesP pa) L i why)
    {ls : List (List Nat)} {ns : List Int} {z : Nat} (h : TxG ls ns L z) (hz : z ≤ 10000) :
    ∃ n : Int, parseF (txL ls) many = .error (n, why) ∧ atI (iv ns ++ [.int ((ls.length : Int) + 1)]) i = some (.int n) := by
  have hG := goS_pa hg hw
  have atN : ∀ (k : Nat) (n : Int), ns[k]? = some n → atI (iv ns ++ [V.int ((ls.length : Int) + 1)]) (k : Int) = some (.int n) := by
    intro k n e
    have hk := (List.getElem?_eq_some_iff.mp e).1
    refine atI_nat ?_
    unfold iv
    rw [List.getElem?_append_left (by rw [List.length_map]; exact hk), List.getElem?_map, e]
    rfl
  have fin : ∀ (k : Nat) (n : Int), ns[k]? = some n → parseR many (ns.zip L) [] [] = .error (n, why) → ∃ n : Int, parseF (txL ls) many = .error (n, why) ∧ atI (iv ns ++ [.int ((ls.length : Int) + 1)]) (k : Int) = some (.int n) :=
    fun k n e hp => ⟨n, parseF_err (h.ch hz) h.rows hp, atN k n e⟩
  have hLZ : (linesP pa).length = (krP pa).length := by rw [linesP_Z, List.length_map]
  have rowAt : ∀ (k : Nat) (ws : List (List Nat)), (linesP pa)[k]? = some ws → k < (krP pa).length ∧ ∃ z, (krP pa)[k]? = some z ∧ ws = rowZ z := by
    intro k ws e
    rw [linesP_Z, List.getElem?_map] at e
    cases ez : (krP pa)[k]? with
    | none => rw [ez] at e; cases e
    | some z =>
      rw [ez] at e
      cases e
      exact ⟨(List.getElem?_eq_some_iff.mp ez).1, z, rfl, rfl⟩
  have setL : ∀ (k : Nat) (x : List (List Nat)), L = (linesP pa).set k x → ns.length = (krP pa).length := by
    intro k x e
    have := h.l
    rw [e, List.length_set, hLZ] at this
    exact this
  have getN : ∀ k : Nat, k < ns.length → ∃ n, ns[k]? = some n := fun k hk => ⟨_, List.getElem?_eq_getElem hk⟩
  cases hs with
  | word i k ws odd o e ho =>
    obtain ⟨hi, zz, ez, erow⟩ := rowAt _ _ e
    have hl := setL _ _ rfl
    obtain ⟨n, hn⟩ := getN i (by omega)
    refine fin i n hn ?_
    rw [linesP_Z]
    refine parse_bad hG hl hn fun r ts => parse_unk ?_ n ws r ts
    have hk0 : (linesP pa)[0]? = some [kindT 0] → ∀ a b, pa ≠ .uns a b := by
      rintro e0 a b rfl
      have e0 : some (nrow 1 a) = some [kindT 0] := e0
      injection e0 with e0
      injection e0 with e0 _
      exact absurd e0 (by decide)
    rcases ho with ho | ⟨rfl, rfl⟩ | ⟨e0, rfl⟩
    · have := odd_no o ho
      have nf : ∀ L : List Nat, (∀ k ∈ L, k < 4) → L.find? (fun j => decide (kindT j = o)) = none := fun L hL => List.find?_eq_none.mpr fun k hk z => this k (hL k hk) (of_decide_eq_true z)
      exact nf _ (kb_lt _)
    · rw [List.take_zero]
      decide
    · rcases ks_cases pa i hi with ⟨_, c⟩ | ⟨_, c⟩ | ⟨⟨a, b, c⟩, _⟩
      · rw [c]; decide
      · rw [c]; decide
      · exact absurd c (hk0 e0 a b)
  | more i ws e =>
    obtain ⟨hi, zz, ez, rfl⟩ := rowAt _ _ e
    have hl := setL _ _ rfl
    obtain ⟨n, hn⟩ := getN i (by omega)
    refine fin i n hn ?_
    rw [linesP_Z]
    obtain ⟨g1, g2, g3⟩ := goS_at _ _ _ _ hG ez
    rw [List.nil_append] at g1
    refine parse_bad hG hl hn fun r ts => ?_
    show parseR many ((n, kindT zz.1 :: (zz.2.map numT ++ [[55]])) :: r) _ ts = _
    rw [parse_one g1, if_neg ?_]
    rw [List.length_append, List.length_map, List.length_singleton]
    omega
  | less i ws e h1 =>
    obtain ⟨hi, zz, ez, rfl⟩ := rowAt _ _ e
    have hl := setL _ _ rfl
    obtain ⟨n, hn⟩ := getN i (by omega)
    refine fin i n hn ?_
    rw [linesP_Z]
    obtain ⟨g1, g2, g3⟩ := goS_at _ _ _ _ hG ez
    rw [List.nil_append] at g1
    refine parse_bad hG hl hn fun r ts => ?_
    have h1 : 1 < (zz.2.map numT).length + 1 := h1
    have ne : zz.2.map numT ≠ [] := fun z => by rw [z] at h1; exact absurd h1 (by decide)
    rw [show (rowZ zz).dropLast = kindT zz.1 :: (zz.2.map numT).dropLast from List.dropLast_cons_of_ne_nil ne, parse_one g1, if_neg ?_]
    rw [List.length_dropLast, List.length_map]
    rw [List.length_map] at h1
    omega
  | num i j ws o u e hj eu ho =>
    obtain ⟨hi, zz, ez, rfl⟩ := rowAt _ _ e
    have hl := setL _ _ rfl
    obtain ⟨n, hn⟩ := getN i (by omega)
    refine fin i n hn ?_
    rw [linesP_Z]
    obtain ⟨g1, g2, g3⟩ := goS_at _ _ _ _ hG ez
    rw [List.nil_append] at g1
    refine parse_bad hG hl hn fun r ts => ?_
    obtain ⟨m, rfl⟩ : ∃ m, j = m + 1 := ⟨j - 1, by omega⟩
    have eu : (zz.2.map numT)[m]? = some u := eu
    have hm := (List.getElem?_eq_some_iff.mp eu).1
    show parseR many ((n, kindT zz.1 :: (zz.2.map numT).set m o) :: r) _ ts = _
    have hu : numB u = true := List.all_eq_true.mp (row_nums g3).1 u (List.mem_of_getElem? eu)
    rw [parse_one g1, if_pos (by rw [List.length_set, List.length_map]; exact g2), if_neg ?_]
    intro z
    have := List.all_eq_true.mp z o (List.mem_of_getElem? (i := m) (by rw [List.getElem?_set_self hm]))
    rw [odd_num hu o ho] at this
    cases this
  | sure ws e0 hws =>
    cases pa with
    | uns a b =>
      have e0 : some (nrow 1 a) = some [kindT 0] := e0
      injection e0 with e0
      injection e0 with e0 _
      exact absurd e0 (by decide)
    | sure R =>
      have hl : ns.length = (krP (.sure R)).length + 1 := by
        have := h.l
        rw [List.length_append, hLZ] at this
        exact this
      obtain ⟨n, hn⟩ := getN (krP (.sure R)).length (by omega)
      rw [hLZ]
      refine fin _ n hn ?_
      rw [linesP_Z]
      have f : ∀ w ∈ [kindT 0, kindT 1, kindT 3, [120]], (kb ((krP (.sure R)).map (·.1))).find? (fun j => decide (kindT j = w)) = none := by
        show ∀ w ∈ _, ([2] : List Nat).find? _ = none
        decide
      refine parse_tail hG hl hn fun r ts => ?_
      simp only [List.mem_cons, List.not_mem_nil, or_false] at hws
      rcases hws with rfl | rfl | rfl | rfl
      · exact parse_unk (f _ (by simp)) _ _ _ _
      · exact parse_unk (f _ (by simp)) _ _ _ _
      · exact parse_unk (f _ (by simp)) _ _ _ _
      · exact parse_unk (f _ (by simp)) _ _ _ _
  | short e0 =>
    cases pa with
    | sure R => exact absurd rfl e0
    | uns a b =>
      have hl := h.l
      have hl : ns.length = 1 := hl
      obtain ⟨n0, rfl⟩ : ∃ n0, ns = [n0] := List.length_eq_one_iff.mp hl
      refine ⟨(ls.length : Int) + 1, ?_, ?_⟩
      · have hp : parseR many ([n0].zip ((linesP (.uns a b)).take 1)) [] [] = .ok ([1], [a]) := by
          have := parse_pre [(1, a)] [n0] [] [] [] rfl ⟨hG.1, hG.2.1, hG.2.2.1, trivial⟩
          exact this
        rw [parseF_ok (h.ch hz) h.rows hp, lines_tx h.n, List.length_append, List.length_singleton]
        rfl
      · rfl
  | long ws u e0 e1 hws =>
    cases pa with
    | sure R => exact absurd rfl e0
    | uns a b =>
      have hl : ns.length = (krP (.uns a b)).length + 1 := by
        have := h.l
        rw [List.length_append, hLZ] at this
        exact this
      obtain ⟨n, hn⟩ := getN (krP (.uns a b)).length (by omega)
      refine fin 2 n hn ?_
      rw [linesP_Z]
      refine parse_tail hG hl hn fun r ts => ?_
      have f : ∀ w : List Nat, (kb ((krP (.uns a b)).map (·.1))).find? (fun j => decide (kindT j = w)) = none := fun w => rfl
      have e1 : some (nrow 3 b) = some u := e1
      cases e1
      simp only [List.mem_cons, List.not_mem_nil, or_false] at hws
      rcases hws with rfl | rfl | rfl | rfl
      · exact parse_unk (f _) _ _ _ _
      · exact parse_unk (f _) _ _ _ _
      · exact parse_unk (f _) _ _ _ _
      · exact parse_unk (f _) _ _ _ _
theorem app_good : ∀ ws ∈ [[kindT 0], [kindT 1, [49], [50]], [kindT 3, [49]], [[120]], [kindT 2, [49]]], WsG ws := by
  have h : ∀ ws ∈ [[kindT 0], [kindT 1, [49], [50]], [kindT 3, [49]], [[120]], [kindT 2, [49]]], ws ≠ [] ∧ ws.length ≤ 8 ∧ ∀ o ∈ ws, o ≠ [] ∧ o.length ≤ 20 ∧ ∀ c ∈ o, 33 ≤ c ∧ c ≤ 126 ∧ c ≠ 37 ∧ c ≠ 35 := by decide +kernel
  exact fun ws hws => ⟨(h ws hws).1, (h ws hws).2.1, fun w hw => wdG_of ((h ws hws).2.2 w hw)⟩
/-- the spoilt lines may be written as a text -/
theorem spl_good {L0 L : List (List (List Nat))} {i : Int} {why : Str} (hs : SpL L0 L i why) (l1 : L0.length ≤ 10) (l2 : ∀ ws ∈ L0, WsG ws ∧ ws.length ≤ 7)
    (l3 : ∀ ws ∈ L0, ∀ (j : Nat) (u : List Nat), 1 ≤ j → ws[j]? = some u → ∃ x : Int, u = numT x ∧ 0 ≤ x ∧ x ≤ 999999) : L.length ≤ 12 ∧ ∀ ws ∈ L, WsG ws := by
  have setG : ∀ (k : Nat) (x : List (List Nat)), WsG x → (L0.set k x).length ≤ 12 ∧ ∀ ws ∈ L0.set k x, WsG ws := by
    intro k x g
    refine ⟨by rw [List.length_set]; omega, fun ws h => ?_⟩
    rcases List.mem_or_eq_of_mem_set h with h | rfl
    · exact (l2 ws h).1
    · exact g
  have addG : ∀ x : List (List Nat), WsG x → (L0 ++ [x]).length ≤ 12 ∧ ∀ ws ∈ L0 ++ [x], WsG ws := by
    intro x g
    refine ⟨by rw [List.length_append, List.length_singleton]; omega, fun ws h => ?_⟩
    rcases List.mem_append.mp h with h | h
    · exact (l2 ws h).1
    · rw [List.mem_singleton.mp h]; exact g
  have one : ∀ o ∈ [(Str.ofString "Sure").cps.toList, (Str.ofString "price").cps.toList, (Str.ofString "fault").cps.toList, (Str.ofString "0").cps.toList, (Str.ofString "paper").cps.toList, (Str.ofString "sures").cps.toList], o ≠ [] ∧ o.length ≤ 20 ∧ ∀ c ∈ o, 33 ≤ c ∧ c ≤ 126 ∧ c ≠ 37 ∧ c ≠ 35 := by decide +kernel
  cases hs with
  | word i k ws odd o e ho =>
    have g := l2 _ (List.mem_of_getElem? e)
    have go : WdG o := by
      rcases ho with ho | ⟨_, rfl⟩ | ⟨_, rfl⟩
      · exact wdG_of (one o ho)
      · exact kindT_good 2
      · exact kindT_good 3
    refine setG i _ ⟨List.cons_ne_nil _ _, ?_, fun w hw => ?_⟩
    · have := g.2
      rw [List.length_cons] at this ⊢
      omega
    · rcases List.mem_cons.mp hw with rfl | hw
      · exact go
      · exact g.1.g w (List.mem_cons_of_mem _ hw)
  | more i ws e =>
    have g := l2 _ (List.mem_of_getElem? e)
    refine setG i _ ⟨by simp, by rw [List.length_append, List.length_singleton]; have := g.2; omega, fun w hw => ?_⟩
    rcases List.mem_append.mp hw with hw | hw
    · exact g.1.g w hw
    · rw [List.mem_singleton.mp hw]; exact wdG_of (by decide)
  | less i ws e h1 =>
    have g := l2 _ (List.mem_of_getElem? e)
    refine setG i _ ⟨fun z => ?_, by rw [List.length_dropLast]; have := g.2; omega, fun w hw => g.1.g w ((List.dropLast_sublist _).subset hw)⟩
    have := congrArg List.length z
    rw [List.length_dropLast, List.length_nil] at this
    omega
  | num i j ws o u e hj eu ho =>
    have g := l2 _ (List.mem_of_getElem? e)
    obtain ⟨x, rfl, x0, x1⟩ := l3 _ (List.mem_of_getElem? e) j u hj eu
    have lu := numT_len x0 x1
    have go : WdG o := by
      have h7 : ∀ o ∈ [(Str.ofString "1000000").cps.toList, [120], (Str.ofString "1.0").cps.toList, (Str.ofString "+1").cps.toList], o ≠ [] ∧ o.length ≤ 20 ∧ ∀ c ∈ o, 33 ≤ c ∧ c ≤ 126 ∧ c ≠ 37 ∧ c ≠ 35 := by decide +kernel
      rcases List.mem_cons.mp ho with rfl | ho
      · refine wdG_of ⟨List.cons_ne_nil _ _, by rw [List.length_cons]; omega, fun c hc => ?_⟩
        rcases List.mem_cons.mp hc with rfl | hc
        · omega
        · have := numT_cs c hc; omega
      rcases List.mem_cons.mp ho with rfl | ho
      · refine wdG_of ⟨List.cons_ne_nil _ _, by rw [List.length_cons]; omega, fun c hc => ?_⟩
        rcases List.mem_cons.mp hc with rfl | hc
        · omega
        · have := numT_cs c hc; omega
      rcases List.mem_cons.mp ho with rfl | ho
      · refine wdG_of ⟨by simp, by rw [List.length_append, List.length_singleton]; omega, fun c hc => ?_⟩
        rcases List.mem_append.mp hc with hc | hc
        · have := numT_cs c hc; omega
        · rw [List.mem_singleton.mp hc]; omega
      exact wdG_of (h7 o ho)
    refine setG i _ ⟨fun z => ?_, by rw [List.length_set]; have := g.2; omega, fun w hw => ?_⟩
    · have := congrArg List.length z
      rw [List.length_set, List.length_nil] at this
      exact g.1.ne (List.length_eq_zero_iff.mp this)
    · rcases List.mem_or_eq_of_mem_set hw with hw | rfl
      · exact g.1.g w hw
      · exact go
  | sure ws e0 hws => exact addG _ (app_good ws (by simp only [List.mem_cons, List.not_mem_nil, or_false] at hws ⊢; rcases hws with h | h | h | h <;> simp [h]))
  | short e0 => exact ⟨by rw [List.length_take]; omega, fun ws h => (l2 ws (List.mem_of_mem_take h)).1⟩
  | long ws u e0 e1 hws =>
    by_cases c : ws = u
    · rw [c]; exact addG _ (l2 u (List.mem_of_getElem? e1)).1
    · exact addG _ (app_good ws (by simp only [List.mem_cons, List.not_mem_nil, or_false] at hws ⊢; rcases hws with h | h | h | h <;> first | exact absurd h c | simp [h]))
theorem linesP_num {pa : Pap} (hg : PaG pa) : ∀ ws ∈ linesP pa, ∀ (j : Nat) (u : List Nat), 1 ≤ j → ws[j]? = some u → ∃ x : Int, u = numT x ∧ 0 ≤ x ∧ x ≤ 999999 := by
  intro ws hws j u hj e
  rw [linesP_Z] at hws
  obtain ⟨z, hz, rfl⟩ := List.mem_map.mp hws
  obtain ⟨m, rfl⟩ : ∃ m, j = m + 1 := ⟨j - 1, by omega⟩
  have e : (z.2.map numT)[m]? = some u := e
  rw [List.getElem?_map] at e
  cases ex : z.2[m]? with
  | none => rw [ex] at e; cases e
  | some x =>
    rw [ex] at e
    cases e
    exact ⟨x, rfl, ((krP_ok hg).2 z hz).2 x (List.mem_of_getElem? ex)⟩
/-! ### the texts of the end -/
theorem parse_none (many : Int) {ls : List (List Nat)} {ns : List Int} {z : Nat} (h : TxG ls ns [] z) (hz : z ≤ 10000) : parseF (txL ls) many = .error ((ls.length : Int) + 1, "paper expected") := by
  have hl := h.l
  rw [List.length_nil] at hl
  have hp : parseR many (ns.zip ([] : List (List (List Nat)))) [] [] = .ok ([], []) := by rw [List.length_eq_zero_iff.mp hl]; rfl
  rw [parseF_ok (h.ch hz) h.rows hp, lines_tx h.n, List.length_append, List.length_singleton]
  rfl
theorem hash_only (n : Nat) : lwL (List.replicate (n + 1) 35) = [] := by
  unfold lwL wsL
  rw [wfold_word (List.replicate (n + 1) 35) [] [] fun c hc => by rw [(List.mem_replicate.mp hc).2]; decide +kernel]
  rfl
def hashesT (n : Nat) : List Nat := [115, 117, 114, 101, 10] ++ List.replicate n 35
theorem sure_lines (many : Int) {y : List Nat} (h : (10 : Nat) ∉ y) (hw : lwL y = []) (hm : y.all mayB = true) (hl : y.length ≤ 9995) : parseF ([115, 117, 114, 101, 10] ++ y) many = .ok (.sure []) := by
  have e : linesL ([115, 117, 114, 101, 10] ++ y) = [[115, 117, 114, 101], y] :=
    spl_join (s := 10) (S := []) (parts := [[115, 117, 114, 101], y]) (by simp) fun p hp => by
      rcases List.mem_cons.mp hp with rfl | hp
      · decide
      · rw [List.mem_singleton.mp hp]; exact h
  have hr : rowsF ([115, 117, 114, 101, 10] ++ y) = [(1, [[115, 117, 114, 101]])] := by
    rw [rowsF_A, e]
    have a : lwL [115, 117, 114, 101] = [[115, 117, 114, 101]] := by decide +kernel
    show (if lwL [115, 117, 114, 101] = [] then [] else [(1, lwL [115, 117, 114, 101])]) ++ ((if lwL y = [] then [] else [(1 + 1, lwL y)]) ++ []) = _
    rw [a, hw, if_neg (by simp), if_pos rfl]
    rfl
  have hc : chOk ([115, 117, 114, 101, 10] ++ y) 10000 = true := by
    unfold chOk
    rw [List.all_append, hm, decide_eq_false (by rw [List.length_append]; show ¬ (10000 : Int) < ((5 + y.length : Nat) : Int); omega)]
    decide
  rw [parseF_ok hc hr (x := ([0], [[]])) rfl]
  rfl
theorem parse_hashes (many : Int) (n : Nat) (hn : n ≤ 9995) : parseF (hashesT n) many = .ok (.sure []) := by
  refine sure_lines many (fun z => by have := (List.mem_replicate.mp z).2; omega) ?_ ?_ (by rw [List.length_replicate]; exact hn)
  · cases n with
    | zero => rfl
    | succ n => exact hash_only n
  · exact List.all_eq_true.mpr fun c hc => by rw [(List.mem_replicate.mp hc).2]; decide
theorem parse_toolong (many : Int) {l : List Nat} (h : 10000 < l.length) : parseF l many = .error (1, "text not allowed") := by
  unfold parseF chOk
  rw [decide_eq_true (show (10000 : Int) < (l.length : Int) by omega)]
  rfl
theorem parse_tab (many : Int) : parseF [115, 117, 114, 101, 32, 35, 9] many = .error (1, "text not allowed") := rfl
theorem parse_x (many : Int) : parseF [115, 117, 114, 101, 32, 35, 120] many = .ok (.sure []) := by
  have hr : rowsF [115, 117, 114, 101, 32, 35, 120] = [(1, [[115, 117, 114, 101]])] := by decide +kernel
  rw [parseF_ok (by decide) hr (x := ([0], [[]])) rfl]
  rfl
end Fd

set_option autoImplicit false
set_option Elab.async false
set_option linter.all false
set_option maxRecDepth 100000
set_option maxHeartbeats 4000000
/-! data whose text is short, put together -/
namespace Fd
open PySem PySem.Spec PyProof.Rows L2
structure SmO (b k : Nat) (d : PyData) : Prop where
  s : d.showable = true
  h : d.hasDict = false
  l : d.leavesShort 13 = true
  b : d.bulk ≤ b
  k : d.depth ≤ k
structure SmA (b k : Nat) (ds : List PyData) : Prop where
  s : PyData.showableAll ds = true
  h : PyData.hasDictAll ds = false
  l : PyData.leavesShortAll 13 ds = true
  b : PyData.bulkAll ds ≤ b
  k : PyData.depthAll ds ≤ k
theorem SmO.small {b k : Nat} {d : PyData} (h : SmO b k d) (hb : b ≤ 2 ^ 20) (hk : k ≤ 60) : smallD d := ⟨h.s, h.h, h.l, Nat.le_trans h.b hb, Nat.le_trans h.k hk⟩
theorem SmO.up {b k b' k' : Nat} {d : PyData} (h : SmO b k d) (hb : b ≤ b') (hk : k ≤ k') : SmO b' k' d := ⟨h.s, h.h, h.l, Nat.le_trans h.b hb, Nat.le_trans h.k hk⟩
theorem SmA.up {b k b' k' : Nat} {d : List PyData} (h : SmA b k d) (hb : b ≤ b') (hk : k ≤ k') : SmA b' k' d := ⟨h.s, h.h, h.l, Nat.le_trans h.b hb, Nat.le_trans h.k hk⟩
theorem smO_int {x : Int} (h : x.natAbs < 10 ^ 12) : SmO 0 0 (.int x) := by
  obtain ⟨a, b, c, _, _⟩ := small_int h
  exact ⟨a, b, c, by simp only [PyData.bulk]; omega, by simp only [PyData.depth]; omega⟩
theorem smO_bool (x : Bool) : SmO 0 0 (.bool x) := by
  obtain ⟨a, b, c, _, _⟩ := small_bool x
  exact ⟨a, b, c, by simp only [PyData.bulk]; omega, by simp only [PyData.depth]; omega⟩
theorem smO_none : SmO 0 0 .none := ⟨by simp only [PyData.showable], by simp only [PyData.hasDict], by simp only [PyData.leavesShort], by simp only [PyData.bulk]; omega, by simp only [PyData.depth]; omega⟩
theorem smO_str {x : Str} {n : Nat} (hn : x.cps.size ≤ n) (h : (x.cps.toList.all fun c => decide (c < 16 ^ 8)) = true) : SmO n 0 (.str x) :=
  ⟨by simp only [PyData.showable], by simp only [PyData.hasDict], by simp only [PyData.leavesShort]; exact h, by simp only [PyData.bulk]; exact hn, by simp only [PyData.depth]; omega⟩
theorem smA_nil {b k : Nat} : SmA b k [] := ⟨by simp only [PyData.showableAll], by simp only [PyData.hasDictAll], by simp only [PyData.leavesShortAll], by simp only [PyData.bulkAll]; omega, by simp only [PyData.depthAll]; omega⟩
theorem smA_cons {b b' k : Nat} {d : PyData} {ds : List PyData} (h : SmO b k d) (hs : SmA b' k ds) : SmA (b + 1 + b') k (d :: ds) := by
  obtain ⟨h1, h2, h3, h4, h5⟩ := h
  obtain ⟨g1, g2, g3, g4, g5⟩ := hs
  exact ⟨by simp only [PyData.showableAll, h1, g1, Bool.and_self], by simp only [PyData.hasDictAll, h2, g2, Bool.or_self], by simp only [PyData.leavesShortAll, h3, g3, Bool.and_self], by simp only [PyData.bulkAll]; omega, by simp only [PyData.depthAll]; omega⟩
theorem smA_app {b b' k : Nat} : ∀ {ds es : List PyData}, SmA b k ds → SmA b' k es → SmA (b + b') k (ds ++ es) := by
  intro ds
  induction ds generalizing b with
  | nil => intro es _ h; exact h.up (by omega) (Nat.le_refl k)
  | cons d ds ih =>
    intro es h g
    obtain ⟨h1, h2, h3, h4, h5⟩ := h
    simp only [PyData.showableAll, PyData.hasDictAll, PyData.leavesShortAll, PyData.bulkAll, PyData.depthAll, Bool.and_eq_true, Bool.or_eq_false_iff] at h1 h2 h3 h4 h5
    have := ih (b := b - (d.bulk + 1)) ⟨h1.2, h2.2, h3.2, by omega, by omega⟩ g
    exact (smA_cons (b := d.bulk) ⟨h1.1, h2.1, h3.1, Nat.le_refl _, by omega⟩ this).up (by omega) (Nat.le_refl k)
theorem smA_map {α : Type} {b k : Nat} {f : α → PyData} : ∀ l : List α, (∀ x ∈ l, SmO b k (f x)) → SmA ((b + 1) * l.length) k (l.map f) := by
  intro l
  induction l with
  | nil => intro _; exact smA_nil
  | cons x l ih =>
    intro h
    have := ih fun y hy => h y (List.mem_cons_of_mem _ hy)
    exact (smA_cons (h x List.mem_cons_self) this).up (by rw [List.length_cons, Nat.mul_succ]; omega) (Nat.le_refl k)
theorem smO_list {b k : Nat} {ds : List PyData} (h : SmA b k ds) : SmO b (k + 1) (.list ds) := by
  obtain ⟨h1, h2, h3, h4, h5⟩ := h
  exact ⟨by simpa only [PyData.showable] using h1, by simpa only [PyData.hasDict] using h2, by simpa only [PyData.leavesShort] using h3, by simp only [PyData.bulk]; exact h4, by simp only [PyData.depth]; omega⟩
theorem smO_tup {b k : Nat} {ds : List PyData} (h : SmA b k ds) : SmO b (k + 1) (.tuple ds) := by
  obtain ⟨h1, h2, h3, h4, h5⟩ := h
  exact ⟨by simpa only [PyData.showable] using h1, by simpa only [PyData.hasDict] using h2, by simpa only [PyData.leavesShort] using h3, by simp only [PyData.bulk]; exact h4, by simp only [PyData.depth]; omega⟩
end Fd

set_option autoImplicit false
set_option Elab.async false
set_option linter.all false
set_option maxRecDepth 100000
set_option maxHeartbeats 4000000
/-! _law_same; papers as data -/
namespace Fd
open PySem PySem.Spec PyProof.Rows L2 RZ
abbrev sSame : Stmt := topL 26
theorem scSame : FnScope ["actual", "due"] ["actual", "due"] (defScope sSame) := ⟨rfl, rfl, rfl, by decide +kernel, rfl, by decide +kernel, by decide +kernel⟩
def papD : Pap → PyData
  | .sure R => .tuple [.str "sure", .tuple (R.map fun row => .tuple (row.map PyData.int))]
  | .uns a b => .tuple ([.str "unsure"] ++ a.map PyData.int ++ [.tuple (b.map PyData.int)])
theorem sm_pap {pa : Pap} (hg : PaG pa) : smallD (papD pa) := by
  have row : ∀ r : List Int, okN r → SmO 8 1 (.tuple (r.map PyData.int)) := fun r h =>
    (smO_tup (smA_map (f := PyData.int) r fun x hx => smO_int (x := x) (by have := h.2 x hx; omega))).up (by have := h.1; omega) (Nat.le_refl _)
  cases pa with
  | sure R =>
    obtain ⟨l9, hR⟩ := hg.s R rfl
    have a := smO_tup (smA_map (f := fun row => PyData.tuple (row.map PyData.int)) R fun r hr => row r (hR r hr))
    have b := smA_cons ((smO_str (x := "sure") (n := 4) (by decide) (by decide +kernel)).up (Nat.le_refl _) (show 0 ≤ 2 by decide)) (smA_cons a (smA_nil (b := 0)))
    exact (smO_tup b).small (by omega) (by decide)
  | uns a b =>
    obtain ⟨l2, ga, gb⟩ := hg.u a b rfl
    have x := smA_cons ((smO_str (x := "unsure") (n := 6) (by decide) (by decide +kernel)).up (Nat.le_refl _) (show 0 ≤ 1 by decide)) (smA_nil (b := 0))
    have y := (smA_map (f := PyData.int) a fun x hx => (smO_int (x := x) (by have := ga.2 x hx; omega)).up (Nat.le_refl _) (show 0 ≤ 1 by decide))
    have z := smA_cons (row b gb) (smA_nil (b := 0))
    exact (smO_tup (smA_app (smA_app x y) z)).small (by omega) (by decide)
theorem dp_app {K : PySem.W.Frag} {H : Hp} : ∀ {xs : List V} {ds : List PyData} {ys : List V} {es : List PyData}, DpAll K H xs ds → DpAll K H ys es → DpAll K H (xs ++ ys) (ds ++ es)
  | _, _, _, _, .nil, h => h
  | _, _, _, _, .cons a r, h => .cons a (dp_app r h)
theorem dp_rows {K : PySem.W.Frag} {H : Hp} : ∀ (rs : List Addr) (R : List (List Int)), rs.length = R.length → (∀ (i : Nat) (x : List Int), R[i]? = some x → ∃ r, rs[i]? = some r ∧ H r = some (.tup (iv x))) → DpAll K H (rs.map V.ref) (R.map fun row => .tuple (row.map PyData.int))
  | [], [], _, _ => .nil
  | r :: rs, x :: R, hl, h => by
    obtain ⟨r', e1, e2⟩ := h 0 x rfl
    cases e1
    exact .cons (dp_tup e2) (dp_rows rs R (by simpa using hl) fun i y e => h (i + 1) y e)
theorem dp_pap {K : PySem.W.Frag} {H : Hp} {p : Addr} {pa : Pap} (h : PaAt H p pa) : Dp K H (.ref p) (papD pa) := by
  cases pa with
  | sure R =>
    obtain ⟨a, h1, rs, h2, h3, h4⟩ := h
    exact .tup (SqT.of h1) (.cons (.str _) (.cons (.tup (SqT.of h2) (dp_rows rs R h3 h4)) .nil))
  | uns a b =>
    obtain ⟨r, h1, h2⟩ := h
    exact .tup (SqT.of h1) (dp_app (dp_app (.cons (.str _) .nil) (dp_ints a)) (.cons (dp_tup h2) .nil))
theorem PaAt.lt {H H' : Hp} {p : Addr} {pa : Pap} (h : PaAt H p pa) (k : ∀ b xs, H b = some (.tup xs) → H' b = some (.tup xs)) : PaAt H' p pa := by
  cases pa with
  | sure R =>
    obtain ⟨a, h1, rs, h2, h3, h4⟩ := h
    refine ⟨a, k _ _ h1, rs, k _ _ h2, h3, fun i x e => ?_⟩
    obtain ⟨r, e1, e2⟩ := h4 i x e
    exact ⟨r, e1, k _ _ e2⟩
  | uns a b =>
    obtain ⟨r, h1, h2⟩ := h
    exact ⟨r, k _ _ h1, k _ _ h2⟩
theorem linesP_w10 {pa : Pap} (hg : PaG pa) : ∀ ws ∈ linesP pa, ws ≠ [] ∧ ws.length ≤ 9 ∧ ∀ w ∈ ws, w.length ≤ 10 ∧ ∀ c ∈ w, c < 1114112 := by
  intro ws hws
  rw [linesP_Z] at hws
  obtain ⟨z, hz, rfl⟩ := List.mem_map.mp hws
  have ok := (krP_ok hg).2 z hz
  have l := nrow_len (k := z.1) ok
  refine ⟨List.cons_ne_nil _ _, l.1, fun w hw => ⟨by have := l.2 w hw; omega, fun c hc => ?_⟩⟩
  rcases List.mem_cons.mp hw with rfl | hw
  · have h : ∀ k < 4, ∀ c ∈ kindT k, c < 1114112 := by decide
    by_cases c4 : z.1 < 4
    · exact h _ c4 c hc
    · have e : ∀ k, ¬ k < 4 → kindT k = kindT 3 := fun k hk => by
        match k, hk with
        | k + 4, _ => rfl
      rw [e _ c4] at hc
      exact h 3 (by decide) c hc
  · obtain ⟨x, hx, rfl⟩ := List.mem_map.mp hw
    have := numT_cs c hc
    omega
theorem lns_ne {H : Hp} {b D a : Addr} {ds : List Int} {n : Nat} {L : List (List (List Nat))} (hB : BoxAt H b D ds n) (h : LnsAt b H a L) : a ≠ b := fun z => by
  obtain ⟨rs, ha, _⟩ := h
  rw [z, hB.1] at ha
  injection ha with ha
  injection ha with ha
  match rs, ha with
  | [x, y], ha =>
    injection ha with _ ha
    injection ha with ha _
    cases ha
theorem LnsAt.kp {b : Addr} {H H' : Hp} {a : Addr} {L : List (List (List Nat))} (h : LnsAt b H a L) (na : a ≠ b) (k : ∀ c xs, c ≠ b → H c = some (.lst xs) → H' c = some (.lst xs)) : LnsAt b H' a L := by
  obtain ⟨rs, h1, h2, h3⟩ := h
  refine ⟨rs, k _ _ na h1, h2, fun i ws e => ?_⟩
  obtain ⟨r, e1, e2, e3⟩ := h3 i ws e
  exact ⟨r, e1, e2, k _ _ e2 e3⟩
/-- what stands through the law -/
structure LwI (TS : List Addr) (H : Hp) (b D p a : Addr) (ds : List Int) (n : Nat) (pa : Pap) : Prop where
  g : TbG TS H
  bx : BoxAt H b D ds n
  pp : PaAt H p pa
  ln : LnsAt b H a (linesP pa)
theorem tbG_smb {TS : List Addr} {H H' : Hp} {b D : Addr} {ds : List Int} {n : Nat} (g : TbG TS H) (bx : BoxAt H b D ds n) (s : SmB b H H') : TbG TS H' := fun q hq => by
  obtain ⟨ps, e, f⟩ := g q hq
  have nb : q ≠ b := fun z => g.ne bx.1 (fun ps e => nomatch e) (z ▸ hq)
  exact ⟨ps, s _ _ nb e, f⟩
theorem LwI.smb {TS : List Addr} {H H' : Hp} {b D p a : Addr} {ds : List Int} {n n' : Nat} {pa : Pap} (h : LwI TS H b D p a ds n pa) (s : SmB b H H') (bx : BoxAt H' b D ds n') : LwI TS H' b D p a ds n' pa :=
  ⟨tbG_smb h.g h.bx s, bx, h.pp.lt fun c xs e => s c _ (fun z => by rw [z, h.bx.1] at e; cases e) e, h.ln.kp (lns_ne h.bx h.ln) fun c xs nc e => s c _ nc e⟩
theorem LwI.same {TS : List Addr} {H H' : Hp} {b D p a : Addr} {ds : List Int} {n : Nat} {pa : Pap} (h : LwI TS H b D p a ds n pa) (s : Same H H') : LwI TS H' b D p a ds n pa := h.smb (SmB.of s) (h.bx.same s)
theorem BoxAt.tbs {TS : List Addr} {H H' : Hp} {b D : Addr} {ds : List Int} {n : Nat} (h : BoxAt H b D ds n) (g : TbG TS H) (s : Tbs TS H H') : BoxAt H' b D ds n := ⟨s.lst g h.1, s.lst g h.2⟩
theorem LwI.tbs {TS : List Addr} {H H' : Hp} {b D p a : Addr} {ds : List Int} {n : Nat} {pa : Pap} (h : LwI TS H b D p a ds n pa) (s : Tbs TS H H') : LwI TS H' b D p a ds n pa :=
  ⟨s.g h.g, h.bx.tbs h.g s, h.pp.lt fun c xs e => s.tup h.g e, h.ln.kp (lns_ne h.bx h.ln) fun c xs _ e => s.lst h.g e⟩
theorem text_small {l : List Nat} (h : l.all mayB = true) (hl : l.length ≤ 20000) : smallD (.str (tx l)) := by
  refine (smO_str (n := 20000) ?_ ?_).small (by decide) (by decide)
  · show l.toArray.size ≤ _
    simpa using hl
  · show (l.toArray.toList.all _) = true
    rw [List.all_eq_true]
    intro c hc
    have := List.all_eq_true.mp h c (by simpa using hc)
    unfold mayB at this
    rw [Bool.or_eq_true, Bool.and_eq_true, decide_eq_true_eq, decide_eq_true_eq, decide_eq_true_eq] at this
    exact decide_eq_true (by omega)
theorem why_small {L0 L : List (List (List Nat))} {i : Int} {why : Str} (h : SpL L0 L i why) : SmO 40 0 (.str why) := by
  cases h <;> exact smO_str (by decide) (by decide +kernel)
theorem told_small {n : Int} {why : Str} (h : 0 ≤ n ∧ n ≤ 100000) (hw : SmO 40 0 (.str why)) : smallD (.list [.int n, .str why]) :=
  (smO_list (smA_cons ((smO_int (by omega)).up (Nat.le_refl _) (Nat.le_refl _)) (smA_cons hw (smA_nil (b := 0))))).small (by decide) (by decide)
theorem rowsA_bd : ∀ (ls : List (List Nat)) (i : Int), ∀ x ∈ rowsA i ls, i ≤ x.1 ∧ x.1 < i + (ls.length : Int) := by
  intro ls
  induction ls with
  | nil => intro i x h; cases h
  | cons l ls ih =>
    intro i x h
    have h : x ∈ (if lwL l = [] then [] else [(i, lwL l)]) ++ rowsA (i + 1) ls := h
    rw [List.length_cons]
    rcases List.mem_append.mp h with h | h
    · split at h
      · cases h
      · rw [List.mem_singleton.mp h]; constructor <;> omega
    · have := ih (i + 1) x h
      omega
theorem TxG.bd {ls : List (List Nat)} {ns : List Int} {Ls : List (List (List Nat))} {z : Nat} (h : TxG ls ns Ls z) : ls.length ≤ z ∧ ∀ n ∈ ns, 1 ≤ n ∧ n ≤ (ls.length : Int) := by
  constructor
  · have a : ∀ ls : List (List Nat), ls.length ≤ (txL ls).length := by
      intro ls
      induction ls with
      | nil => exact Nat.zero_le _
      | cons x ls ih =>
        show _ ≤ ((x ++ [10]) ++ txL ls).length
        rw [List.length_append, List.length_append, List.length_cons, List.length_singleton]
        omega
    exact Nat.le_trans (a ls) h.z
  · intro n hn
    obtain ⟨k, hk, e⟩ := List.getElem_of_mem hn
    have hL : k < Ls.length := by have := h.l; omega
    have hm : (ns[k], Ls[k]) ∈ rowsA 1 ls := by
      rw [h.r]
      refine List.mem_of_getElem? (i := k) ?_
      rw [List.getElem?_zip_eq_some]
      exact ⟨List.getElem?_eq_getElem hk, List.getElem?_eq_getElem hL⟩
    have := rowsA_bd ls 1 _ hm
    rw [e] at this
    have : 1 ≤ n ∧ n < 1 + (ls.length : Int) := this
    omega
theorem at_bd {ns : List Int} {last i n : Int} (h : atI (iv ns ++ [V.int last]) i = some (.int n)) : n ∈ ns ∨ n = last := by
  have : V.int n ∈ iv ns ++ [V.int last] := by
    obtain ⟨j, _, e, _⟩ := atI_get h
    exact List.mem_of_getElem? e
  rcases List.mem_append.mp this with h | h
  · unfold iv at h
    obtain ⟨x, hx, e⟩ := List.mem_map.mp h
    cases e
    exact .inl hx
  · have h := List.mem_singleton.mp h
    cases h
    exact .inr rfl
section
variable {P : Program} {w : World} {K : PySem.W.Frag} {mg : Str → Option Value} {base : Heap}
theorem ok_same {f : Addr} {fd : FuncData} (F : Fun K "_law_same" "_law_same" sSame f fd) (mR : mg "repr" = none) : GOk P w K mg base 1 f fd ["actual", "due"] (spSame K) := by
  refine gok_of F scSame (fun vs H Q E h => ?_) (fun cdv A outer s H vs Q E hg hr h => ?_)
  · obtain ⟨x, y, d, rfl, _⟩ := h
    rfl
  · obtain ⟨x, y, d, rfl, h1, h2, h3, q⟩ := h
    refine ⟨_, pss_one (ps_ret (pe_cmpR op_eq (pe_callB (call_repr_dp hg hr.units) (by rfl) mR (by decide +kernel) (pa_cons (pv 0) pa_nil)) (pe_callB (call_repr_dp hg hr.units) (by rfl) mR (by decide +kernel) (pa_cons (pv 1) pa_nil)) (nomark _))), ?_⟩
    refine ⟨x, rfl, x, d, rfl, h1, h3, y, rfl, y, d, rfl, h2, h3, rfl, ?_⟩
    rw [decide_eq_true rfl]
    exact q
end
end Fd

set_option autoImplicit false
set_option Elab.async false
set_option linter.all false
set_option maxRecDepth 100000
set_option maxHeartbeats 4000000
namespace Fd
open PySem PySem.Spec PyProof.Rows L2 RZ
abbrev sLaw : Stmt := topL 35
theorem scLaw : FnScope ["script", "box", "many", "paper", "lines", "text", "turn", "spoilt", "at", "reason", "numbers", "last", "long", "odd", "due", "words"] ["script"] (defScope sLaw) := ⟨rfl, rfl, rfl, by decide +kernel, rfl, by decide +kernel, by decide +kernel⟩
abbrev sLawN : List Str := ["script", "box", "many", "paper", "lines", "text", "turn", "spoilt", "at", "reason", "numbers", "last", "long", "odd", "due", "words"]
section
variable {P : Program} {w : World} {K : PySem.W.Frag} {mg : Str → Option Value} {base : Heap}
def spLaw (TS : List Addr) (K : PySem.W.Frag) : Sp := fun vs H Q _ => ∃ (a : Addr) (ns : List Int), vs = [.ref a] ∧ SqL K H a (iv ns) ∧ ns.length ≤ 63 ∧ TbG TS H ∧ ∀ H', Q (.bl true) H'
theorem ok_law {TS : List Addr} {f fDi fD fLp fLl fS fTd fSp fTt fLs fPk : Addr} {fd fdDi fdD fdLp fdLl fdS fdTd fdSp fdTt fdLs fdPk : FuncData} (F : Fun K "law" "law" sLaw f fd)
    (FDi : Fun K "_law_digits" "_law_digits" sDigits fDi fdDi) (GDi : FnOk P w K mg base CX0 2 fDi fdDi ["script", "first", "last"] (spDigits K)) (bDi : Binds K fdDi ["script", "first", "last"] []) (gDi : mg "_law_digits" = some (.ref fDi))
    (FD : Fun K "_law_draw" "_law_draw" sDraw fD fdD) (GD : FnOk P w K mg base CX0 1 fD fdD ["box", "many"] spDraw) (bD : Binds K fdD ["box", "many"] []) (gD : mg "_law_draw" = some (.ref fD))
    (FLp : Fun K "_law_paper" "_law_paper" sLp fLp fdLp) (GLp : FnOk P w K mg base CX0 4 fLp fdLp ["box", "many"] spLp) (bLp : Binds K fdLp ["box", "many"] []) (gLp : mg "_law_paper" = some (.ref fLp))
    (FLl : Fun K "_law_lines" "_law_lines" sLl fLl fdLl) (GLl : FnOk P w K mg base CX0 1 fLl fdLl ["paper"] spLl) (bLl : Binds K fdLl ["paper"] []) (gLl : mg "_law_lines" = some (.ref fLl))
    (FS : Fun K "_law_same" "_law_same" sSame fS fdS) (GS : GOk P w K mg base 1 fS fdS ["actual", "due"] (spSame K)) (bS : Binds K fdS ["actual", "due"] []) (gS : mg "_law_same" = some (.ref fS))
    (FTd : Fun K "_law_told" "_law_told" sTd fTd fdTd) (GTd : FnOk P w K mg base CX0 7 fTd fdTd ["text", "many"] ((spTd TS))) (bTd : Binds K fdTd ["text", "many"] []) (gTd : mg "_law_told" = some (.ref fTd))
    (FSp : Fun K "shown_paper" "shown_paper" sSp fSp fdSp) (GSp : FnOk P w K mg base CX0 1 fSp fdSp ["paper"] spSp) (bSp : Binds K fdSp ["paper"] []) (gSp : mg "shown_paper" = some (.ref fSp))
    (FTt : Fun K "_law_text" "_law_text" sTt fTt fdTt) (GTt : FnOk P w K mg base CX0 4 fTt fdTt ["box", "lines"] spTt) (bTt : Binds K fdTt ["box", "lines"] []) (gTt : mg "_law_text" = some (.ref fTt))
    (FLs : Fun K "_law_spoilt" "_law_spoilt" sLs fLs fdLs) (GLs : FnOk P w K mg base CX0 3 fLs fdLs ["box", "lines"] spLs) (bLs : Binds K fdLs ["box", "lines"] []) (gLs : mg "_law_spoilt" = some (.ref fLs))
    (FPk : Fun K "_law_pick" "_law_pick" sPick fPk fdPk) (GPk : FnOk P w K mg base CX0 2 fPk fdPk ["box", "things"] spPickV) (bPk : Binds K fdPk ["box", "things"] []) (gPk : mg "_law_pick" = some (.ref fPk))
    (mR : mg "range" = none) (mI : mg "int" = none) (mLen : mg "len" = none) : GOk P w K mg base 8 f fd ["script"] (spLaw TS K) := by
  refine gok_of F scLaw (fun vs H Q E h => ?_) (fun cdv A outer s H vs Q E hg hr h => ?_)
  · obtain ⟨a, ns, rfl, _⟩ := h
    rfl
  · obtain ⟨a, ns, rfl, hS, hlen, hG, q⟩ := h
    have hr4 : Room 4 _ := hr.mono (by decide)
    have hr3 : Room 3 _ := hr.mono (by decide)
    have hr2 : Room 2 _ := hr.mono (by decide)
    have hr1 : Room 1 _ := hr.mono (by decide)
    refine ⟨_, pss_cons (ps_set (i := 1) scLaw.nd rfl (.inl rfl) (pe_lst (pa_cons (pe_call GDi hr2 (by rfl) gDi FDi.kp bDi .nil pass0 (pa_cons (pv 0) (pa_cons (pe_int) (pa_cons (pe_int) pa_nil)))) (pa_cons (pe_int) pa_nil))))
      (pss_cons (ps_set (i := 2) scLaw.nd rfl (.inl rfl) (pe_op op_add (pe_int) (pe_call GD hr1 (by rfl) gD FD.kp bD .nil pass0 (pa_cons (pv 1) (pa_cons (pe_int) pa_nil)))))
      (pss_cons (ps_set (i := 3) scLaw.nd rfl (.inl rfl) (pe_call GLp hr4 (by rfl) gLp FLp.kp bLp .nil pass0 (pa_cons (pv 1) (pa_cons (pv 2) pa_nil))))
      (pss_cons (ps_set (i := 4) scLaw.nd rfl (.inl rfl) (pe_call GLl hr1 (by rfl) gLl FLl.kp bLl .nil pass0 (pa_cons (pv 3) pa_nil)))
      (pss_cons (ps_set (i := 5) scLaw.nd rfl (.inl rfl) (pe_join (pe_str) (pe_lc (own := [("words", 15)]) (g := gName 15) (tt := tYes) (te := tOp rStr (tM1 (rJn K) (tC (.str " ")) (tVar 15)) (tC (.str "\n"))) rfl scLaw.nd (pi_list (pv 4))
            (blkOk_by (N := sLawN) (sc := defScope sLaw) (by decide +kernel))
            (fun _ _ _ _ _ => pg_name (i := 15) scLaw.nd rfl (.inl rfl)) (fun _ _ _ _ _ => pts_nil)
            (fun _ _ _ _ _ => pe_op op_add_str (pe_join (pe_str) (pv 15)) (pe_str)))))
      (pss_cons (ps_if (PW.pt (pw_or (pt_not (pt_val (pe_callG GS hg hr1 (by rfl) gS FS.kp bS (pa_cons (pe_call GSp hr1 (by rfl) gSp FSp.kp bSp .nil pass0 (pa_cons (pv 3) pa_nil)) (pa_cons (pv 5) pa_nil))))) (pw_or1 (pt_not (pt_val (pe_callG GS hg hr1 (by rfl) gS FS.kp bS (pa_cons (pe_call GTd hr (by rfl) gTd FTd.kp bTd .nil pass0 (pa_cons (pv 5) (pa_cons (pv 2) pa_nil))) (pa_cons (pv 3) pa_nil))))))))
        (pss_one (ps_ret (pe_bl))) pss_nil)
      (pss_cons (ps_if (PW.pt (pw_or (pt_not (pt_val (pe_callG GS hg hr1 (by rfl) gS FS.kp bS (pa_cons (pe_call GTd hr (by rfl) gTd FTd.kp bTd .nil pass0 (pa_cons (pe_ix ix_list (pe_call GTt hr4 (by rfl) gTt FTt.kp bTt .nil pass0 (pa_cons (pv 1) (pa_cons (pv 4) pa_nil))) (pe_int) (fun _ _ => rfl)) (pa_cons (pv 2) pa_nil))) (pa_cons (pv 3) pa_nil))))) (pw_or1 (pt_not (pt_val (pe_callG GS hg hr1 (by rfl) gS FS.kp bS (pa_cons (pe_call GTd hr (by rfl) gTd FTd.kp bTd .nil pass0 (pa_cons (pe_slice sl_str (pv 5) po_none (po_some (pe_un un_neg (pe_int)))) (pa_cons (pv 2) pa_nil))) (pa_cons (pv 3) pa_nil))))))))
        (pss_one (ps_ret (pe_bl))) pss_nil)
      (pss_cons (ps_for PassesOwn.never rfl (pi_range1 (by rfl) mR (pa_cons (pe_int) pa_nil)) (pg_name (i := 6) scLaw.nd rfl (.inl rfl))
        (pss_cons (ps_asg (pe_call GLs hr3 (by rfl) gLs FLs.kp bLs .nil pass0 (pa_cons (pv 1) (pa_cons (pv 4) pa_nil))) (pg_lst rfl (pgs_cons (pg_name (i := 7) scLaw.nd rfl (.inl rfl)) (pgs_cons (pg_name (i := 8) scLaw.nd rfl (.inl rfl)) (pgs_cons (pg_name (i := 9) scLaw.nd rfl (.inl rfl)) pgs_nil)))))
        (pss_cons (ps_asg (pe_call GTt hr4 (by rfl) gTt FTt.kp bTt .nil pass0 (pa_cons (pv 1) (pa_cons (pv 7) pa_nil))) (pg_lst rfl (pgs_cons (pg_name (i := 5) scLaw.nd rfl (.inl rfl)) (pgs_cons (pg_name (i := 10) scLaw.nd rfl (.inl rfl)) (pgs_cons (pg_name (i := 11) scLaw.nd rfl (.inl rfl)) pgs_nil)))))
        (pss_one (ps_if (pt_not (pt_val (pe_callG GS hg hr1 (by rfl) gS FS.kp bS (pa_cons (pe_call GTd hr (by rfl) gTd FTd.kp bTd .nil pass0 (pa_cons (pv 5) (pa_cons (pv 2) pa_nil))) (pa_cons (pe_lst (pa_cons (pe_ix ix_list (pe_op op_cat (pv 10) (pe_lst (pa_cons (pv 11) pa_nil))) (pv 8) (fun _ _ => rfl)) (pa_cons (pv 9) pa_nil))) pa_nil)))))
          (pss_one (ps_ret (pe_bl))) pss_nil)))))
      (pss_cons (ps_asg (pe_call GTt hr4 (by rfl) gTt FTt.kp bTt .nil pass0 (pa_cons (pv 1) (pa_cons (pe_lst pa_nil) pa_nil))) (pg_lst rfl (pgs_cons (pg_name (i := 5) scLaw.nd rfl (.inl rfl)) (pgs_cons (pg_name (i := 10) scLaw.nd rfl (.inl rfl)) (pgs_cons (pg_name (i := 11) scLaw.nd rfl (.inl rfl)) pgs_nil)))))
      (pss_cons (ps_if (pt_not (pt_val (pe_callG GS hg hr1 (by rfl) gS FS.kp bS (pa_cons (pe_call GTd hr (by rfl) gTd FTd.kp bTd .nil pass0 (pa_cons (pv 5) (pa_cons (pv 2) pa_nil))) (pa_cons (pe_lst (pa_cons (pv 11) (pa_cons (pe_str) pa_nil))) pa_nil)))))
        (pss_one (ps_ret (pe_bl))) pss_nil)
      (pss_cons (ps_set (i := 12) scLaw.nd rfl (.inl rfl) (pe_op op_add_str (pe_str) (pe_op op_repS (pe_str) (pe_op op_add (pe_int) (pe_call GD hr1 (by rfl) gD FD.kp bD .nil pass0 (pa_cons (pv 1) (pa_cons (pe_int) pa_nil)))))))
      (pss_cons (ps_set (i := 13) scLaw.nd rfl (.inl rfl) (pe_op op_add_str (pe_str) (pe_call GPk hr2 (by rfl) gPk FPk.kp bPk .nil pass0 (pa_cons (pv 1) (pa_cons (pe_lst (pa_cons (pe_str) (pa_cons (pe_str) pa_nil))) pa_nil)))))
      (pss_cons (ps_set (i := 14) scLaw.nd rfl (.inl rfl) (pe_lst (pa_cons (pe_tup (pa_cons (pe_str) (pa_cons (pe_tup pa_nil) pa_nil))) (pa_cons (pe_lst (pa_cons (pe_int) (pa_cons (pe_str) pa_nil))) pa_nil))))
      (pss_one (ps_ret (pe_and (pe_callG GS hg hr1 (by rfl) gS FS.kp bS (pa_cons (pe_call GTd hr (by rfl) gTd FTd.kp bTd .nil pass0 (pa_cons (pv 12) (pa_cons (pv 2) pa_nil))) (pa_cons (pe_ix ix_list (pv 14) (pe_callTy call_int1 (by rfl) mI (by decide +kernel) (pa_cons (pe_cmpR op_gt (pe_callB call_len_str (by rfl) mLen PySem.boot_len (pa_cons (pv 12) pa_nil)) (pe_int) (nomark _)) pa_nil)) (fun _ _ => rfl)) pa_nil))) (pe_one (pe_callG GS hg hr1 (by rfl) gS FS.kp bS (pa_cons (pe_call GTd hr (by rfl) gTd FTd.kp bTd .nil pass0 (pa_cons (pv 13) (pa_cons (pv 2) pa_nil))) (pa_cons (pe_ix ix_list (pv 14) (pe_callTy call_int1 (by rfl) mI (by decide +kernel) (pa_cons (pe_cmpR op_inS (pe_str) (pv 13) rfl) pa_nil)) (fun _ _ => rfl)) pa_nil))))))))))))))))))), ?_⟩
    have big : 2000000 ≤ sizeLine := by decide
    -- box
    refine ⟨.ref a, rfl, a, ns, 63, rfl, by decide, hS, fun H0 D ds s0 nD hD => ?_⟩
    refine ⟨by show 2 ≤ sizeLine; decide, fun b nb => ?_⟩
    have hG0 : TbG TS _ := (Tbs.same (s0.trans (same_new nb (o := .lst [.ref D, .int ((0 : Nat) : Int)])))).g hG
    have hbx : BoxAt (upd H0 b (.lst [.ref D, .int ((0 : Nat) : Int)])) b D ds 0 := ⟨upd_same, by rw [upd_ne (ne_of_none hD nb)]; exact hD⟩
    refine st_go (σ' := [some (.ref a), some (.ref b), none, none, none, none, none, none, none, none, none, none, none, none, none, none]) rfl ?_
    -- many
    refine ⟨.ref b, rfl, b, D, ds, 0, 6, rfl, hbx, by decide, fun d d0 d6 => ⟨1, d, rfl, rfl, ?_⟩⟩
    obtain ⟨many, hm, m1, m6⟩ : ∃ many : Nat, 1 + d = (many : Int) ∧ 1 ≤ many ∧ many ≤ 6 := ⟨(1 + d).toNat, by omega, by omega, by omega⟩
    refine st_go (σ' := [some (.ref a), some (.ref b), some (.int (many : Int)), none, none, none, none, none, none, none, none, none, none, none, none, none]) (by rw [← hm]; rfl) ?_
    have bx1 := hbx.bump
    have hG1 := tbG_smb hG0 hbx (SmB.upd (o := .lst [.ref D, .int (0 + 1 : Nat)]))
    -- the paper
    refine ⟨.ref b, rfl, .int (many : Int), rfl, b, D, ds, _, many, rfl, bx1, m6, fun H2 n2 p pa s2 bx2 hP hg hw => ?_⟩
    have hG2 := tbG_smb hG1 bx1 s2
    refine st_go (σ' := [some (.ref a), some (.ref b), some (.int (many : Int)), some (.ref p), none, none, none, none, none, none, none, none, none, none, none, none]) rfl ?_
    -- the lines
    refine ⟨.ref p, rfl, p, pa, rfl, hP, hg, fun H3 l s3 hLn => ?_⟩
    obtain ⟨nlb, hLn⟩ := hLn b (by rw [bx2.1]; exact fun z => nomatch z)
    have I3 : LwI TS H3 b D p l ds n2 pa := ⟨(Tbs.same s3).g hG2, bx2.same s3, hP.lt fun c xs e => s3 _ _ e, hLn⟩
    refine st_go (σ' := [some (.ref a), some (.ref b), some (.int (many : Int)), some (.ref p), some (.ref l), none, none, none, none, none, none, none, none, none, none, none]) rfl ?_
    clear hG0 hG1 hG2 bx1 bx2 hbx hP s2 s3 hD nD s0 hLn
    obtain ⟨l10, lg⟩ := linesP_good hg hw m6
    have wg : ∀ ws ∈ linesP pa, WsG ws := fun ws h => (lg ws h).1
    obtain ⟨T0, hT0⟩ : ∃ T0, T0 = txL ((linesP pa).map jn) := ⟨_, rfl⟩
    obtain ⟨pl, tl⟩ := parse_plain hg hw m6
    rw [← hT0] at pl tl
    have mT0 : T0.all mayB = true := by
      obtain ⟨nns, t⟩ := txG_plain (linesP pa) wg _ (Nat.le_refl _)
      rw [List.take_length] at t
      rw [hT0]
      exact t.m
    have ne1 : ∀ R, pa = .sure R → ∀ row ∈ R, row ≠ [] := by
      rintro R rfl row hr z
      have := hw row hr
      rw [z] at this
      have : 0 = many := this
      omega
    have ne2 : ∀ x y, pa = .uns x y → y ≠ [] := by
      rintro x y rfl z
      have hw : y.length = many := hw
      rw [z] at hw
      have : 0 = many := hw
      omega
    -- the text
    obtain ⟨rs, ha, lr, hR⟩ := I3.ln
    refine ⟨⟨_, rfl⟩, .ref l, rfl, l, rfl, ⟨_, SqL.of ha⟩, fun C nC => ?_⟩
    refine lc_it walk_list (fun i H' => Same H3 H' ∧ H' C = some (.lst ((((linesP pa).take i).map fun ws => tx (jn ws ++ [10])).map V.str)))
      ⟨same_new nC, upd_same⟩ (fun i H' _ h => SqL.of (h.1 _ _ ha)) ?_ ?_
    · rintro i x H4 H5 hi ⟨s4, hC⟩ ⟨rfl, hx⟩
      rw [List.length_map, lr] at hi
      obtain ⟨r0, e1, nr, e2⟩ := hR i _ (List.getElem?_eq_getElem hi)
      rw [List.getElem?_map, e1] at hx
      have hx : some (V.ref r0) = some x := hx
      cases hx
      obtain ⟨ws, hws⟩ : ∃ ws, ws = (linesP pa)[i] := ⟨_, rfl⟩
      rw [← hws] at e2
      have gw := wg ws (by rw [hws]; exact List.getElem_mem hi)
      have lj := (jn_good gw).z
      have lz := gw.z
      refine ⟨rfl, ?_⟩
      dsimp only [tYes]
      rw [if_pos rfl]
      refine ⟨⟨_, rfl⟩, .ref r0, rfl, Str.ofString " ", r0, ws.map tx, rfl, rfl, .inl (SqL.of (by rw [s4 _ _ e2]; unfold wsV; rw [List.map_map]; rfl)), ?_, ?_⟩
      · rw [List.length_map, List.map_map]
        have := sum_le (c := 20) (fun w => (tx w).length) ws fun w hw => by rw [tx_len]; exact (gw.g w hw).z
        have e : (Str.ofString " ").length = 1 := by decide +kernel
        rw [e]
        have : (ws.map ((fun x => x.length) ∘ tx)).sum ≤ 20 * ws.length := this
        omega
      · rw [join_sp]
        refine ⟨tx (jn ws), Str.ofString "\n", rfl, rfl, ?_, ?_⟩
        · have e : (Str.ofString "\n").length = 1 := by decide +kernel
          rw [e, tx_len]
          omega
        · have e : Str.ofString "\n" = tx [10] := by decide +kernel
          rw [e, tx_add]
          refine ⟨_, hC, Nat.lt_of_le_of_lt (show _ ≤ 100 by rw [List.length_map, List.length_map, List.length_take]; omega) (by decide), same_upd' s4 nC, ?_⟩
          rw [upd_same, List.take_add_one, List.getElem?_eq_getElem hi, ← hws, List.map_append, List.map_append]
          rfl
    rintro H4 ⟨s4, hC⟩
    rw [List.length_map, lr, List.take_length] at hC
    refine ⟨Str.ofString "", C, (linesP pa).map fun ws => tx (jn ws ++ [10]), rfl, rfl, .inl (SqL.of hC), ?_, ?_⟩
    · rw [List.length_map, List.map_map]
      have := sum_le (c := 400) (fun ws => (tx (jn ws ++ [10])).length) (linesP pa) fun ws hws => by
        rw [tx_len, List.length_append, List.length_singleton]
        have := (jn_good (wg ws hws)).z
        have := (wg ws hws).z
        omega
      have e : (Str.ofString "").length = 0 := by decide +kernel
      rw [e]
      have : ((linesP pa).map ((fun x => x.length) ∘ fun ws => tx (jn ws ++ [10]))).sum ≤ 400 * (linesP pa).length := this
      omega
    have e : Txt.join (Str.ofString "") ((linesP pa).map fun ws => tx (jn ws ++ [10])) = tx T0 := by
      have h := join_tx ((linesP pa).map fun ws => jn ws ++ [10])
      rw [List.map_map] at h
      have e0 : (Str.ofString "") = tx [] := by decide +kernel
      rw [e0]
      refine h.trans (congrArg tx ?_)
      rw [hT0]
      unfold txL
      rw [List.flatMap_map, List.flatMap_def]
    rw [e]
    have I4 := I3.same s4
    clear e hC I3 ha hR lr
    refine st_go (σ' := [some (.ref a), some (.ref b), some (.int (many : Int)), some (.ref p), some (.ref l), some (.str (tx T0)), none, none, none, none, none, none, none, none, none, none]) rfl ?_
    -- shown_paper
    refine ⟨.ref p, rfl, p, pa, rfl, I4.pp, hg, ne1, ne2, fun H5 s5 => ?_⟩
    rw [← hT0]
    refine ⟨.str (tx T0), rfl, _, _, .str (tx T0), rfl, .str _, .str _, text_small mT0 (by omega), _, rfl, ite2 (fun z => absurd z (by decide)) (fun _ => ?_)⟩
    have I5 := I4.same s5
    refine ⟨.str (tx T0), rfl, .int (many : Int), rfl, T0, many, rfl, I5.g, by omega, ?_⟩
    rw [pl]
    intro H6 p6 t6 hp6
    have I6 := I5.tbs t6
    refine ⟨.ref p, rfl, _, _, papD pa, rfl, dp_pap hp6, dp_pap I6.pp, sm_pap hg, _, rfl, ite2 (fun z => absurd z (by decide)) (fun _ => ?_)⟩
    clear I4 I5 s5 t6 hp6 s4
    -- a looser text
    refine ⟨.ref b, rfl, .ref l, rfl, b, D, ds, n2, l, linesP pa, rfl, I6.bx, nlb, I6.ln, by omega, wg, fun H7 n7 r7 N7 ls7 ns7 s7 bx7 hr7 hN7 tg7 => ?_⟩
    have I7 := I6.smb s7 bx7
    have b7 := tg7.bd
    refine ⟨r7, _, 0, .str (tx (txL ls7)), rfl, rfl, SqL.of hr7, rfl, .int (many : Int), rfl, _, many, rfl, I7.g, by have := tg7.z; omega, ?_⟩
    rw [parse_text hg hw tg7 (by omega)]
    intro H8 p8 t8 hp8
    have I8 := I7.tbs t8
    refine ⟨.ref p, rfl, _, _, papD pa, rfl, dp_pap hp8, dp_pap I8.pp, sm_pap hg, _, rfl, ite2 (fun z => absurd z (by decide)) (fun _ => ?_)⟩
    -- without the last newline
    refine ⟨.str (tx T0), rfl, 1, rfl, -1, rfl, tx T0, rfl, by rw [tx_len]; omega, ?_⟩
    rw [show cutS (tx T0) none (some (-1)) = tx (T0.take (T0.length - 1)) from cut_but T0 1 (by decide)]
    refine ⟨.int (many : Int), rfl, _, many, rfl, I8.g, by rw [List.length_take]; omega, ?_⟩
    rw [parse_cut hg hw m6 hT0]
    intro H9 p9 t9 hp9
    have I9 := I8.tbs t9
    refine ⟨.ref p, rfl, _, _, papD pa, rfl, dp_pap hp9, dp_pap I9.pp, sm_pap hg, _, rfl, ite2 (fun z => absurd z (by decide)) (fun _ => ?_)⟩
    clear I6 I7 I8 s7 bx7 hr7 hN7 tg7 t8 hp8 t9 hp9
    -- one fault, three times
    refine ⟨3, rfl, by decide, by decide, ?_⟩
    refine for_range (n := 3) (fun j σ H' => ∃ y5 y6 y7 y8 y9 y10 y11 n', σ = [some (.ref a), some (.ref b), some (.int (many : Int)), some (.ref p), some (.ref l), y5, y6, y7, y8, y9, y10, y11, none, none, none, none] ∧ LwI TS H' b D p l ds n' pa)
      ⟨_, _, _, _, _, _, _, n7, rfl, I9⟩ ?_ ?_
    · rintro j σ H10 hj ⟨y5, y6, y7, y8, y9, y10, y11, n', rfl, I10⟩
      refine st_go (σ' := [some (.ref a), some (.ref b), some (.int (many : Int)), some (.ref p), some (.ref l), y5, some (.int (0 + (j : Int))), y7, y8, y9, y10, y11, none, none, none, none]) rfl ?_
      refine ⟨.ref b, rfl, .ref l, rfl, b, D, l, ds, n', linesP pa, rfl, I10.bx, linesP_ne pa, ?_, I10.ln, ⟨l10, linesP_w10 hg⟩, fun H11 n11 t11 l11 L' i why s11 bx11 hS hL' ht11 => ?_⟩
      · intro z
        cases pa with
        | sure R => exact absurd rfl z
        | uns x y => rfl
      have I11 := I10.smb s11 bx11
      refine ⟨t11, _, rfl, SqL.of ht11, rfl, _, _, rfl, _, _, rfl, _, _, rfl, rfl, ?_⟩
      dsimp only [List.set]
      have nl11 := lns_ne bx11 hL'
      obtain ⟨gl, gw⟩ := spl_good hS l10 lg (linesP_num hg)
      refine ⟨.ref b, rfl, .ref l11, rfl, b, D, ds, n11, l11, L', rfl, bx11, nl11, hL', gl, gw, fun H12 n12 r12 N12 ls ns12 s12 bx12 hr12 hN12 tg => ?_⟩
      have I12 := I11.smb s12 bx12
      refine ⟨r12, _, rfl, SqL.of hr12, rfl, _, _, rfl, _, _, rfl, _, _, rfl, rfl, ?_⟩
      dsimp only [List.set]
      have bd := tg.bd
      obtain ⟨nn, hp, hat⟩ := parse_spoilt hg hw hS tg (by omega)
      refine ⟨.str (tx (txL ls)), rfl, .int (many : Int), rfl, _, many, rfl, I12.g, by have := tg.z; omega, ?_⟩
      rw [hp]
      intro H13 p13 t13 hp13
      have I13 := I12.tbs t13
      have hN13 := t13.lst I12.g hN12
      refine ⟨.ref N12, rfl, .int ((ls.length : Int) + 1), rfl, by show 1 ≤ sizeLine; decide, fun m nm => ⟨N12, m, _, _, rfl, rfl, same_new nm _ _ hN13, upd_same, ?_, fun c nc => ?_⟩⟩
      · refine Nat.le_trans (show _ ≤ 100 from ?_) (by decide)
        unfold iv
        rw [List.length_map, tg.l]
        show _ + 1 ≤ _
        omega
      have u1 := (same_new (o := .lst [.int ((ls.length : Int) + 1)]) nm).trans (same_new (o := .lst (iv ns12 ++ [.int ((ls.length : Int) + 1)])) nc)
      refine ⟨.int i, rfl, c, _, i, .int nn, rfl, rfl, SqL.of upd_same, hat, .str why, rfl, by show 2 ≤ sizeLine; decide, fun z nz => ?_⟩
      have u2 := u1.trans (same_new (o := .lst [.int nn, .str why]) nz)
      have bn : 0 ≤ nn ∧ nn ≤ 100000 := by
        rcases at_bd hat with h | h
        · have := bd.2 nn h; omega
        · omega
      refine ⟨_, _, .list [.int nn, .str why], rfl, .lst (SqL.of (u2 _ _ hp13)) (.cons (.int _) (.cons (.str _) .nil)), .lst (SqL.of upd_same) (.cons (.int _) (.cons (.str _) .nil)), told_small bn (why_small hS), _, rfl, ite2 (fun z => absurd z (by decide)) (fun _ => ?_)⟩
      exact ⟨_, _, _, _, _, _, _, n12, rfl, I13.same u2⟩
    rintro σ H10 ⟨y5, y6, y7, y8, y9, y10, y11, n', rfl, I10⟩
    -- no lines at all
    refine ⟨.ref b, rfl, by show 0 ≤ sizeLine; decide, fun e0 ne0 => ?_⟩
    have I11 := I10.same (same_new (o := .lst []) ne0)
    have neb : e0 ≠ b := fun z => by rw [z, I10.bx.1] at ne0; cases ne0
    refine ⟨b, D, ds, n', e0, [], rfl, I11.bx, neb, ⟨[], upd_same, rfl, fun i ws e => nomatch e⟩, by decide, fun ws h => (nomatch h), fun H12 n12 r12 N12 ls ns12 s12 bx12 hr12 hN12 tg => ?_⟩
    have I12 := I11.smb s12 bx12
    refine ⟨r12, _, rfl, SqL.of hr12, rfl, _, _, rfl, _, _, rfl, _, _, rfl, rfl, ?_⟩
    dsimp only [List.set]
    have bd := tg.bd
    refine ⟨.str (tx (txL ls)), rfl, .int (many : Int), rfl, _, many, rfl, I12.g, by have := tg.z; omega, ?_⟩
    rw [parse_none (many : Int) tg (by omega)]
    intro H13 p13 t13 hp13
    have I13 := I12.tbs t13
    refine ⟨.int ((ls.length : Int) + 1), rfl, by show 2 ≤ sizeLine; decide, fun z nz => ?_⟩
    have u2 := same_new (o := .lst [.int ((ls.length : Int) + 1), .str (Str.ofString "paper expected")]) nz
    refine ⟨_, _, .list [.int ((ls.length : Int) + 1), .str "paper expected"], rfl, .lst (SqL.of (u2 _ _ hp13)) (.cons (.int _) (.cons (.str _) .nil)), .lst (SqL.of upd_same) (.cons (.int _) (.cons (.str _) .nil)), told_small (by omega) (smO_str (by decide) (by decide +kernel)), _, rfl, ite2 (fun z => absurd z (by decide)) (fun _ => ?_)⟩
    have I14 := I13.same u2
    clear I10 I11 I12 I13 s12 bx12 hr12 hN12 tg
    -- too long, or a sign that may not stand
    refine ⟨.ref b, rfl, b, D, ds, n12, 4, rfl, I14.bx, by decide, fun d2 d20 d24 => ⟨9994, d2, rfl, rfl, [35], 9994 + d2, congrArg V.str sgn_hash1, rfl, by omega, by omega, by show 1 * _ ≤ _; omega, Str.ofString "sure\n", _, rfl, rfl, ?_, ?_⟩⟩
    · have e : (Str.ofString "sure\n").length = 5 := by decide +kernel
      have e2 : (List.replicate (9994 + d2).toNat [35]).flatten.length = (9994 + d2).toNat := by simp
      rw [e, tx_len, e2]
      omega
    obtain ⟨k, hk⟩ : ∃ k : Nat, (9994 + d2).toNat = k := ⟨_, rfl⟩
    have hk2 : 9994 + d2 = (k : Int) ∧ k ≤ 9997 ∧ (k ≤ 9995 ↔ d2 ≤ 1) := by omega
    have eL : Str.ofString "sure\n" ++ tx (List.replicate (9994 + d2).toNat [35]).flatten = tx (hashesT k) := by
      have e : Str.ofString "sure\n" = tx [115, 117, 114, 101, 10] := by decide +kernel
      have e2 : (List.replicate (9994 + d2).toNat [35]).flatten = List.replicate k 35 := by rw [hk]; simp
      rw [e, tx_add, e2]
      rfl
    rw [eL]
    have lk : (hashesT k).length = k + 5 := by unfold hashesT; rw [List.length_append, List.length_replicate]; show 5 + k = _; omega
    have I15 := I14.smb (SmB.upd (o := .lst [.ref D, .int (n12 + 1 : Nat)])) I14.bx.bump
    refine st_go (σ' := [some (.ref a), some (.ref b), some (.int (many : Int)), some (.ref p), some (.ref l), some (.str (tx (txL ls))), y6, _, _, _, some (.ref N12), some (.int ((ls.length : Int) + 1)), some (.str (tx (hashesT k))), none, none, none]) rfl ?_
    refine ⟨.ref b, rfl, by show 2 ≤ sizeLine; decide, fun pk npk => ?_⟩
    have I16 := I15.same (same_new (o := .lst [.str (Str.ofString "\t"), .str (Str.ofString "x")]) npk)
    have nkb : pk ≠ b := fun z => by rw [z, I15.bx.1] at npk; cases npk
    refine ⟨b, D, ds, _, pk, _, rfl, I16.bx, upd_same, nkb, by simp, by show 2 ≤ 100; decide, fun v hv => ?_⟩
    have I17 := I16.smb (SmB.upd (o := .lst [.ref D, .int (n12 + 1 + 1 : Nat)])) I16.bx.bump
    obtain ⟨ch, rfl, hch⟩ : ∃ ch : Nat, v = .str (tx [ch]) ∧ (ch = 9 ∨ ch = 120) := by
      have e1 : Str.ofString "\t" = tx [9] := by decide +kernel
      have e2 : Str.ofString "x" = tx [120] := by decide +kernel
      simp only [List.mem_cons, List.not_mem_nil, or_false] at hv
      rcases hv with rfl | rfl
      · exact ⟨9, by rw [e1], .inl rfl⟩
      · exact ⟨120, by rw [e2], .inr rfl⟩
    have e6 : Str.ofString "sure #" = tx [115, 117, 114, 101, 32, 35] := by decide +kernel
    refine ⟨Str.ofString "sure #", _, rfl, rfl, by rw [e6, tx_len, tx_len]; show 6 + 1 ≤ _; omega, ?_⟩
    rw [e6, tx_add]
    generalize L2.upd (L2.upd (L2.upd (L2.upd H13 z (.lst [.int ((ls.length : Int) + 1), .str (Str.ofString "paper expected")])) b (.lst [.ref D, .int (n12 + 1 : Nat)])) pk (.lst [.str (Str.ofString "\t"), .str (Str.ofString "x")])) b (.lst [.ref D, .int (n12 + 1 + 1 : Nat)]) = H17 at I17 ⊢
    refine st_go (σ' := [some (.ref a), some (.ref b), some (.int (many : Int)), some (.ref p), some (.ref l), some (.str (tx (txL ls))), y6, _, _, _, some (.ref N12), some (.int ((ls.length : Int) + 1)), some (.str (tx (hashesT k))), some (.str (tx [115, 117, 114, 101, 32, 35, ch])), none, none]) rfl ?_
    -- due
    refine ⟨by show 0 ≤ sizeLine; decide, fun q1 m1' => ⟨by show 2 ≤ sizeLine; decide, fun q2 m2 => ⟨by show 2 ≤ sizeLine; decide, fun q3 m3 => ⟨by show 2 ≤ sizeLine; decide, fun q4 m4 => ?_⟩⟩⟩⟩
    have u1 := same_new (o := .tup []) m1'
    have u2 := same_new (o := .tup [.str (Str.ofString "sure"), .ref q1]) m2
    have u3 := same_new (o := .lst [.int 1, .str (Str.ofString "text not allowed")]) m3
    have u4 := same_new (o := .lst [.ref q2, .ref q3]) m4
    have k1 := (u2.trans (u3.trans u4)) _ _ (upd_same : L2.upd H17 q1 (.tup []) q1 = _)
    have k2 := (u3.trans u4) _ _ (upd_same : L2.upd (L2.upd H17 q1 (.tup [])) q2 (.tup [.str (Str.ofString "sure"), .ref q1]) q2 = _)
    have k3 := u4 _ _ (upd_same : L2.upd (L2.upd (L2.upd H17 q1 (.tup [])) q2 (.tup [.str (Str.ofString "sure"), .ref q1])) q3 (.lst [.int 1, .str (Str.ofString "text not allowed")]) q3 = _)
    have k4 := (upd_same : L2.upd (L2.upd (L2.upd (L2.upd H17 q1 (.tup [])) q2 (.tup [.str (Str.ofString "sure"), .ref q1])) q3 (.lst [.int 1, .str (Str.ofString "text not allowed")])) q4 (.lst [.ref q2, .ref q3]) q4 = _)
    have I18 := I17.same (u1.trans (u2.trans (u3.trans u4)))
    generalize L2.upd (L2.upd (L2.upd (L2.upd H17 q1 (.tup [])) q2 (.tup [.str (Str.ofString "sure"), .ref q1])) q3 (.lst [.int 1, .str (Str.ofString "text not allowed")])) q4 (.lst [.ref q2, .ref q3]) = H18 at k1 k2 k3 k4 I18 ⊢
    refine st_go (σ' := [some (.ref a), some (.ref b), some (.int (many : Int)), some (.ref p), some (.ref l), some (.str (tx (txL ls))), y6, _, _, _, some (.ref N12), some (.int ((ls.length : Int) + 1)), some (.str (tx (hashesT k))), some (.str (tx [115, 117, 114, 101, 32, 35, ch])), some (.ref q4), none]) rfl ?_
    clear I14 I15 I16 I17 u1 u2 u3 u4 m1' m2 m3 m4 nkb npk
    have sure0 : ∀ H' : Hp, H' q2 = some (.tup [.str (Str.ofString "sure"), .ref q1]) → H' q1 = some (.tup []) → Dp K H' (.ref q2) (papD (.sure [])) := fun H' h1 h2 => .tup (SqT.of h1) (.cons (.str _) (.cons (.tup (SqT.of h2) .nil) .nil))
    have g0 : PaG (.sure []) := ⟨fun R e => by cases e; exact ⟨Nat.zero_le _, fun _ h => nomatch h⟩, fun _ _ e => nomatch e⟩
    have wna : SmO 40 0 (.str "text not allowed") := smO_str (by decide) (by decide +kernel)
    have lst2 : ∀ {H' : Hp} {r : Addr}, H' r = some (.lst [.int 1, .str (Str.ofString "text not allowed")]) → Dp K H' (.ref r) (.list [.int 1, .str "text not allowed"]) := fun h => .lst (SqL.of h) (.cons (.int _) (.cons (.str _) .nil))
    have lt2 : (tx (hashesT k)).length = k + 5 := by rw [tx_len, lk]
    refine ⟨.str (tx (hashesT k)), rfl, .int (many : Int), rfl, hashesT k, many, rfl, I18.g, by omega, ?_⟩
    by_cases c : k ≤ 9995
    · rw [parse_hashes _ _ c]
      intro H19 p19 t19 hp
      have I19 := I18.tbs t19
      refine ⟨.ref q4, rfl, .str (tx (hashesT k)), rfl, tx (hashesT k), rfl, by omega, _, _, rfl, rfl, .inr ⟨_, rfl, q4, _, _, .ref q2, rfl, rfl, SqL.of (t19.lst I18.g k4), by rw [decide_eq_false (by rw [lt2]; omega)]; rfl, ?_⟩⟩
      refine ⟨_, _, papD (.sure []), rfl, dp_pap hp, sure0 _ (t19.tup I18.g k2) (t19.tup I18.g k1), sm_pap g0, ?_⟩
      refine ⟨true, rfl, ?_⟩
      rw [if_pos rfl]
      refine ⟨.str (tx [115, 117, 114, 101, 32, 35, ch]), rfl, .int (many : Int), rfl, _, many, rfl, I19.g, by show 7 ≤ 500000; decide, ?_⟩
      have tab : V.str (Str.ofString "\t") = .str (tx [9]) := by decide +kernel
      rcases hch with rfl | rfl
      · rw [parse_tab]
        intro H20 p20 t20 hp20
        have g20 := I19.g
        have k4' := t20.lst g20 (t19.lst I18.g k4)
        refine ⟨.ref q4, rfl, .str (tx [115, 117, 114, 101, 32, 35, 9]), rfl, 9, _, tab, rfl, .inr ⟨_, rfl, q4, _, _, .ref q3, rfl, rfl, SqL.of k4', rfl, ?_⟩⟩
        exact ⟨_, _, .list [.int 1, .str "text not allowed"], rfl, lst2 hp20, lst2 (t20.lst g20 (t19.lst I18.g k3)), told_small (by decide) wna, q _⟩
      · rw [parse_x]
        intro H20 p20 t20 hp20
        have g20 := I19.g
        have k4' := t20.lst g20 (t19.lst I18.g k4)
        refine ⟨.ref q4, rfl, .str (tx [115, 117, 114, 101, 32, 35, 120]), rfl, 9, _, tab, rfl, .inr ⟨_, rfl, q4, _, _, .ref q2, rfl, rfl, SqL.of k4', rfl, ?_⟩⟩
        exact ⟨_, _, papD (.sure []), rfl, dp_pap hp20, sure0 _ (t20.tup g20 (t19.tup I18.g k2)) (t20.tup g20 (t19.tup I18.g k1)), sm_pap g0, q _⟩
    · rw [parse_toolong (many : Int) (l := hashesT k) (by omega)]
      intro H19 p19 t19 hp
      have I19 := I18.tbs t19
      refine ⟨.ref q4, rfl, .str (tx (hashesT k)), rfl, tx (hashesT k), rfl, by omega, _, _, rfl, rfl, .inr ⟨_, rfl, q4, _, _, .ref q3, rfl, rfl, SqL.of (t19.lst I18.g k4), by rw [decide_eq_true (by rw [lt2]; omega)]; rfl, ?_⟩⟩
      refine ⟨_, _, .list [.int 1, .str "text not allowed"], rfl, lst2 hp, lst2 (t19.lst I18.g k3), told_small (by decide) wna, ?_⟩
      refine ⟨true, rfl, ?_⟩
      rw [if_pos rfl]
      refine ⟨.str (tx [115, 117, 114, 101, 32, 35, ch]), rfl, .int (many : Int), rfl, _, many, rfl, I19.g, by show 7 ≤ 500000; decide, ?_⟩
      have tab : V.str (Str.ofString "\t") = .str (tx [9]) := by decide +kernel
      rcases hch with rfl | rfl
      · rw [parse_tab]
        intro H20 p20 t20 hp20
        have g20 := I19.g
        have k4' := t20.lst g20 (t19.lst I18.g k4)
        refine ⟨.ref q4, rfl, .str (tx [115, 117, 114, 101, 32, 35, 9]), rfl, 9, _, tab, rfl, .inr ⟨_, rfl, q4, _, _, .ref q3, rfl, rfl, SqL.of k4', rfl, ?_⟩⟩
        exact ⟨_, _, .list [.int 1, .str "text not allowed"], rfl, lst2 hp20, lst2 (t20.lst g20 (t19.lst I18.g k3)), told_small (by decide) wna, q _⟩
      · rw [parse_x]
        intro H20 p20 t20 hp20
        have g20 := I19.g
        have k4' := t20.lst g20 (t19.lst I18.g k4)
        refine ⟨.ref q4, rfl, .str (tx [115, 117, 114, 101, 32, 35, 120]), rfl, 9, _, tab, rfl, .inr ⟨_, rfl, q4, _, _, .ref q2, rfl, rfl, SqL.of k4', rfl, ?_⟩⟩
        exact ⟨_, _, papD (.sure []), rfl, dp_pap hp20, sure0 _ (t20.tup g20 (t19.tup I18.g k2)) (t20.tup g20 (t19.tup I18.g k1)), sm_pap g0, q _⟩
end
end Fd

set_option autoImplicit true
set_option Elab.async false
set_option linter.all false
set_option maxRecDepth 100000
set_option maxHeartbeats 2000000
/-! The head of a law whose promise holds where no repr is under way; with tables of code objects. -/
namespace Fd
open PySem PySem.Spec PyProof.Rows L2

/-- what is tracked at the law's entry: the script, unless it is an object of the top, and the tables -/
def entryT (K : PySem.W.Frag) (cs : List (Addr × Addr)) (a : Addr) (o : Obj) (xs : List V) : Hp := fun b =>
  if b = a ∧ K.lookup a = none then some (.frz o (.lst xs)) else if b ∈ cs.map (·.2) then some (.tbl #[]) else none

theorem law_callT {P : Program} {w : World} {K : PySem.W.Frag} {mg mb : Str → Option Value} {k : Nat} {fa a : Addr} {cs : List (Addr × Addr)} {fd : FuncData} {x : Str} {sp : Sp} {s1 : Shared} {vs : List Value} {ns : List Int}
    (kin : K.In s1.heap) (gl : s1.heap.Ns mainGlobals mg) (bl : s1.heap.Ns builtinsNs mb) (bl2 : ∀ x : Str, x ≠ "__name__" → mb x = bootBuiltins x) (lim : s1.heap.NoLimit) (gens : s1.gens = #[])
    (tabs : ∀ p ∈ cs, s1.heap.get? p.2 = some { cls := .none, data := .fields #[] }) (free : ∀ p ∈ cs, K.lookup p.2 = none) (code : ∀ p ∈ cs, PySem.W.CodeHd s1.heap p.1 p.2)
    (main : ∃ (bm : Addr) (ob : Obj), mg "__builtins__" = some (.ref bm) ∧ bm ≠ builtinsNs ∧ s1.heap.get? bm = some ob ∧ ob.cls = .type "module" ∧ ob.dict = some builtinsNs ∧ ob.data = .plain)
    (ha : s1.heap.get? a = some { cls := .type "list", data := .seq vs.toArray }) (hi : IntsAre vs ns) (sz : ns.length ≤ sizeLine) (room : Room k callerA)
    (F : ∀ base : Heap, K.In base → base.Ns mainGlobals mg → (∀ p ∈ cs, LamX.TabB base mg p.1 p.2) → GOk P w K mg base k fa fd [x] sp) (bind : ∀ (s : Shared) (u : Value), BindsTo s fd ⟨[u], []⟩ [(x, u)])
    (hsp : ∀ H : Hp, (∀ p ∈ cs, H p.2 = some (.tbl #[])) → SqL K H a (ns.map V.int) → sp [.ref a] H (fun v _ => v = .bl true) fun _ _ _ => False) :
    codeAny (model P w) callerA (.call (.ref fa) ⟨[.ref a], []⟩) (fun r s' => r = .ok (.ret (.bool true)) ∧ OldK s1.heap s'.heap ∧ s'.os = s1.os ∧ AllBare s'.gens) s1 := by
  have rel := vals_ints hi
  have lenV := hi.length
  have tabAt : ∀ b : Addr, b ∈ cs.map (·.2) → s1.heap.get? b = some { cls := .none, data := .fields #[] } := by
    intro b hb
    obtain ⟨p, hp, rfl⟩ := List.mem_map.mp hb
    exact tabs p hp
  have aNo : a ∉ cs.map (·.2) := fun z => by
    have q := tabAt a z
    rw [ha] at q
    have q2 : Data.seq vs.toArray _ = Data.fields #[] := congrArg Obj.data (Option.some.inj q)
    cases q2
  generalize hH : entryT K cs a { cls := .type "list", data := .seq vs.toArray } (ns.map V.int) = H
  have at_ : ∀ b u, H b = some u → (b = a ∧ K.lookup a = none ∧ u = .frz { cls := .type "list", data := .seq vs.toArray } (.lst (ns.map V.int))) ∨ (b ∈ cs.map (·.2) ∧ u = .tbl #[]) := by
    intro b u q
    rw [← hH] at q
    unfold entryT at q
    by_cases c : b = a ∧ K.lookup a = none
    · rw [if_pos c] at q
      exact .inl ⟨c.1, c.2, (Option.some.inj q).symm⟩
    · rw [if_neg c] at q
      by_cases c2 : b ∈ cs.map (·.2)
      · rw [if_pos c2] at q
        exact .inr ⟨c2, (Option.some.inj q).symm⟩
      · rw [if_neg c2] at q
        cases q
  have hTab : ∀ b, b ∈ cs.map (·.2) → H b = some (.tbl #[]) := by
    intro b hb
    rw [← hH]
    unfold entryT
    rw [if_neg (show ¬ (b = a ∧ K.lookup a = none) from fun z => aNo (z.1 ▸ hb)), if_pos hb]
  have hTabs : ∀ p ∈ cs, H p.2 = some (.tbl #[]) := fun p hp => hTab _ (List.mem_map.mpr ⟨p, hp, rfl⟩)
  have hok : HOk P w H s1.heap := by
    intro b u q
    rcases at_ b u q with ⟨rfl, _, rfl⟩ | ⟨hb, rfl⟩
    · exact ⟨ha, by rw [List.length_map]; exact sz, vs, _, rel, ha⟩
    · exact tabAt b hb
  have seq : SqL K H a (ns.map V.int) := by
    cases hk : K.lookup a with
    | some o =>
      have e := kin a o hk
      rw [ha] at e
      cases e
      exact .inr ⟨_, vs.toArray, _, hk, rfl, rfl, rfl, by rw [List.size_toArray, lenV]; exact sz, by simpa using rel⟩
    | none =>
      refine .inl (.inr ⟨{ cls := .type "list", data := .seq vs.toArray }, ?_⟩)
      rw [← hH]
      exact if_pos ⟨rfl, hk⟩
  have keep : ∀ {b : Addr} {o : Obj}, s1.heap.get? b = some o → H b = none → (hidT s1.heap H).get? b = some o := fun q n => hidT_get q n
  have other : ∀ {b : Addr} {o : Obj}, s1.heap.get? b = some o → (∀ xs n, o.data ≠ .seq xs n) → o.data ≠ .fields #[] → H b = none := by
    intro b o q n1 n2
    cases z : H b with
    | none => rfl
    | some u =>
      rcases at_ b u z with ⟨rfl, _, _⟩ | ⟨hb, _⟩
      · rw [ha] at q
        cases q
        exact absurd rfl (n1 _ _)
      · rw [tabAt b hb] at q
        cases q
        exact absurd rfl n2
  have ns_ : ∀ {b : Addr} {m : Str → Option Value}, s1.heap.Ns b m → (hidT s1.heap H).Ns b m := by
    rintro b m ⟨o, es, ep, q, d, rest⟩
    exact ⟨o, es, ep, keep q (other q (fun xs n z => by rw [d] at z; cases z) (fun z => by rw [d] at z; cases z)), d, rest⟩
  have kb : K.In (hidT s1.heap H) := by
    intro b o q
    refine keep (kin b o q) ?_
    cases z : H b with
    | none => rfl
    | some u =>
      rcases at_ b u z with ⟨rfl, n, _⟩ | ⟨hb, _⟩
      · rw [n] at q
        cases q
      · obtain ⟨p, hp, rfl⟩ := List.mem_map.mp hb
        rw [free p hp] at q
        cases q
  have md : Mod K mg (hidT s1.heap H) := ⟨kb, ns_ gl, ⟨mb, ns_ bl, bl2⟩, by obtain ⟨mc, q1, q2⟩ := lim; exact ⟨mc, ns_ q1, q2⟩⟩
  have TB : ∀ p ∈ cs, LamX.TabB (hidT s1.heap H) mg p.1 p.2 := by
    intro p hp
    have tp := tabs p hp
    refine ⟨?_, ?_, fun z => ?_⟩
    · obtain ⟨o, us, file, tf, flags, tg, inF, text, tt, e1, r1, r2, r3, more⟩ := code p hp
      exact ⟨o, us, file, tf, flags, tg, inF, text, tt, keep e1 (other e1 (fun xs n z => by rw [r2] at z; cases z) (fun z => by rw [r2] at z; cases z; simp at r3)), r1, r2, r3, more⟩
    · obtain ⟨bm, ob, b1, b2, b3, b4, b5, b6⟩ := main
      have nG : bm ≠ mainGlobals := fun q => by
        obtain ⟨o, es, ep, e, hd, _⟩ := gl
        rw [q, e] at b3
        cases b3
        rw [hd] at b6
        cases b6
      have nP : bm ≠ p.2 := fun q => by
        rw [q, tp] at b3
        cases b3
        cases b6
      exact ⟨bm, ob, b1, b2, nG, nP, keep b3 (other b3 (fun xs n z => by rw [b6] at z; cases z) (fun z => by rw [b6] at z; cases z)), b4, b5, b6⟩
    · obtain ⟨o, es, ep, e, hd, _⟩ := gl
      rw [z, tp] at e
      cases e
      cases hd
  have e0 : Env0 P w K mg (hidT s1.heap H) callerA [] s1 H :=
    ⟨rfl, md, fun _ _ q => of_hidT q, Nat.le_of_eq (hidT_size _ _), trivial, (fun b hb => nomatch (show b ∈ ([] : List Addr) from hb)), hok, .of_eq gens⟩
  refine codeAny_mono ((F _ kb (ns_ gl) TB).go callerA [] s1 H ⟨[.ref a], []⟩ [.ref a] [.ref a] _ _ rfl room e0 (bind s1 (.ref a)) (.cons rfl .nil) (hsp H hTabs seq)) fun r s' h => ?_
  cases r with
  | error e => exact False.elim h
  | ok fl =>
    cases fl with
    | next => exact False.elim h
    | brk => exact False.elim h
    | cont => exact False.elim h
    | ret u =>
      obtain ⟨v, H', os, bare, un, hok', ru, rfl⟩ := h
      obtain rfl : u = Value.bool true := ru
      have stays : ∀ b o, b ∉ cs.map (·.2) → s1.heap.get? b = some o → s'.heap.get? b = some o := by
        intro b o nb q
        cases z : H b with
        | none => exact un.keep b o q z (fun c => nomatch (show b ∈ ([] : List Addr) from c)) (fun c => nomatch c)
        | some t =>
          rcases at_ b t z with ⟨rfl, _, rfl⟩ | ⟨hb, _⟩
          · have z2 := (hok' b _ (un.frzs b _ _ z)).1
            rw [ha] at q
            cases q
            exact z2
          · exact absurd hb nb
      have grown : ∀ b, b ∈ cs.map (·.2) → ∃ more : Array Value, s'.heap.get? b = some { cls := .none, data := .fields (#[] ++ more) } := by
        intro b hb
        obtain ⟨more, z⟩ := un.tbls b #[] (hTab b hb)
        exact ⟨more, hok' b _ z⟩
      refine ⟨rfl, ⟨fun b o q => ?_, fun b o q => ?_⟩, os, bare⟩
      · by_cases hb : b ∈ cs.map (·.2)
        · obtain ⟨more, hm⟩ := grown b hb
          obtain ⟨p, hp, rfl⟩ := List.mem_map.mp hb
          have tp := tabs p hp
          rw [tp] at q
          cases q
          exact .inr (.inl ⟨((code p hp).tab tp).isCodeTable, rfl, #[], more, rfl, hm⟩)
        · exact .inl (stays b o hb q)
      · by_cases hb : b ∈ cs.map (·.2)
        · obtain ⟨more, hm⟩ := grown b hb
          exact ⟨_, hm⟩
        · exact ⟨o, stays b o hb q⟩

/-- the head: F may look at the top (for the tables) -/
theorem walk_ofT {l : PySem.W.OpenLaw} {n k : Nat} {q : Program} {loose : List Str} {XP : (Str → Option Value) → Heap → Prop} {YP : World → Heap → Prop} {d : DefRec} {K : Params → PySem.W.Frag} {x : Str}
    (hn : l.most = some n) (hn2 : n ≤ sizeLine) (hdf : d.params.defaults = []) (room : Room k callerA) (hY : ∀ (w : World) (h : Heap), YP w h → (K w.params).In h)
    (F : ∀ (w : World) (mg mb : Str → Option Value) (lo : List Str) (mean : ExcName → Option Value) (fa : Addr) (h : Heap), PyProof.Rows.Top q lo mean mg mb h → (K w.params).In h → mg d.name = some (.ref fa) →
      ∃ (fd : FuncData) (cs : List (Addr × Addr)) (sp : Sp), (∀ p ∈ cs, h.get? p.2 = some { cls := .none, data := .fields #[] }) ∧ (∀ p ∈ cs, (K w.params).lookup p.2 = none) ∧ (∀ p ∈ cs, PySem.W.CodeHd h p.1 p.2) ∧
        (∀ (s : Shared) (u : Value), BindsTo s fd ⟨[u], []⟩ [(x, u)]) ∧
        (∀ base : Heap, (K w.params).In base → base.Ns mainGlobals mg → (∀ p ∈ cs, LamX.TabB base mg p.1 p.2) → GOk l.prog w (K w.params) mg base k fa fd [x] sp) ∧
        (∀ (H : Hp) (a : Addr) (ns : List Int), ns.length ≤ n → (∀ p ∈ cs, H p.2 = some (.tbl #[])) → SqL (K w.params) H a (ns.map V.int) → sp [.ref a] H (fun v _ => v = .bl true) fun _ _ _ => False)) :
    PySem.W.WalkO q loose XP YP l.row.toRowW d [] (fun f vs => PySem.call f vs) := by
  refine Att.attach_call hn hdf fun w s0 s1 mg mb fa o pm cd doc a vs ns G Y ho hd hcd hmg hobj hints hlen hgens => ?_
  obtain ⟨fd, cs, sp, h1, h2, h3, h4, h5, h6⟩ := F w mg mb _ _ fa _ G.T (hY w _ Y) hmg
  exact law_callT (hY w _ Y) G.T.g G.T.b G.T.builtins G.T.nolimit hgens h1 h2 h3 G.T.bmain hobj hints (Nat.le_trans hlen hn2) room h5 h4 fun H hT hS => h6 H a ns hlen hT hS
end Fd

set_option autoImplicit false
set_option Elab.async false
set_option linter.all false
set_option maxRecDepth 100000
set_option maxHeartbeats 4000000
namespace Fd
open PySem PySem.Spec PyProof.Rows L2
theorem kit_refB {K : PySem.W.Frag} {t : Value} {D : Addr} {b : Bool} (h : t ≠ .ref D) (hc : PySem.W.isClsIn K D = true) (ht : PySem.W.typeIn K (.ref D) = some (.type "type")) (hs : PySem.W.subIn K t (.ref D) = some b) : PySem.W.kitOne K t (.ref D) = some b := by
  have hc : (PySem.W.clsIn K D).isSome = true := hc
  have e1 : (t == Value.ref D) = false := beq_eq_false_iff_ne.mpr h
  show (if (t == Value.ref D) = true then some true else if ((PySem.W.clsIn K D).isSome && PySem.W.typeIn K (.ref D) == some (.type "type")) = true then PySem.W.subIn K t (.ref D) else none) = some b
  rw [e1, hc, ht, if_neg (by decide), if_pos (by rfl)]
  exact hs
theorem kit_self {K : PySem.W.Frag} {t : Value} : PySem.W.kitOne K t t = some true := by
  unfold PySem.W.kitOne
  rw [if_pos (by simp)]
theorem kit_tyB {K : PySem.W.Frag} {C : Addr} {b : Bool} (hs : PySem.W.subIn K (.ref C) (.type "ValueError") = some b) : PySem.W.kitOne K (.ref C) (.type "ValueError") = some b := by
  show (if (Value.ref C == Value.type "ValueError") = true then some true else if PySem.W.kitMeta "ValueError" = true then PySem.W.subIn K (.ref C) (.type "ValueError") else none) = some b
  rw [if_neg (by intro z; cases z), if_pos (by decide +kernel)]
  exact hs
theorem ref_ne {C D : Addr} (h : C ≠ D) : Value.ref C ≠ Value.ref D := fun z => h (by injection z)
end Fd

set_option autoImplicit true
set_option Elab.async false
set_option linter.all false
set_option maxRecDepth 100000
set_option maxHeartbeats 4000000
namespace Fd
open PySem PySem.Spec PyProof.Rows L2 RZ FdS
/-! ### what the top has written -/
theorem all_mk {l : PySem.W.OpenLaw} {w : World} {K : PySem.W.Frag} {h : Heap} {q : Program} {lo : List Str} {mean : ExcName → Option Value} {mg mb : Str → Option Value} {fa : Addr} (T : PyProof.Rows.Top q lo mean mg mb h) (X : K.In h) (hfa : mg "law" = some (.ref fa))
    {f0 f1 f2 f3 f4 f5 f6 f7 f8 f9 f10 f11 f12 f13 f14 f15 f16 f17 f18 f19 f20 f21 f22 : Addr} {od0 an0 od1 an1 od2 an2 od3 an3 od4 an4 od5 an5 od6 an6 od7 an7 od8 an8 od9 an9 od10 an10 od11 an11 od12 an12 od13 an13 od14 an14 od15 an15 od16 an16 od17 an17 od18 an18 od19 an19 od20 an20 od21 an21 od22 an22 : Option Addr} {sl0 sl1 sl2 sl3 sl4 sl5 sl6 sl7 sl8 sl9 sl10 sl11 sl12 sl13 sl14 sl15 sl16 sl17 sl18 sl19 sl20 sl21 sl22 : Array (Option Value)}
    {oc0 kV0 dc0 pm0 cd0 ct0 oc1 kV1 dc1 pm1 cd1 ct1 oc2 kV2 dc2 pm2 cd2 ct2 oc3 kV3 dc3 pm3 cd3 ct3 oc4 kV4 dc4 pm4 cd4 ct4 oc5 kV5 dc5 pm5 cd5 ct5 oc6 kV6 dc6 pm6 cd6 ct6 oc7 kV7 dc7 pm7 cd7 ct7 oc8 kV8 dc8 pm8 cd8 ct8 oc9 kV9 dc9 pm9 ct9 oc10 kV10 dc10 pm10 cd10 ct10 oc11 kV11 dc11 pm11 cd11 ct11 oc12 kV12 dc12 pm12 cd12 ct12 oc13 kV13 dc13 pm13 ct13 oc14 kV14 dc14 pm14 cd14 ct14 oc15 kV15 dc15 pm15 cd15 ct15 oc16 kV16 dc16 pm16 cd16 ct16 oc17 kV17 dc17 pm17 cd17 ct17 oc18 kV18 dc18 pm18 cd18 ct18 oc19 kV19 dc19 pm19 cd19 ct19 oc20 kV20 dc20 pm20 cd20 ct20 oc21 kV21 dc21 pm21 cd21 ct21 oc22 kV22 dc22 pm22 cd22 ct22 : Value}
    {c_0 P_0 : Addr} {tc_0 : Value} {td_0 : Option Addr} {tv_0 : Array Value} {ts_0 : Array (Option Value)} {dr_0 : DefRec}
    {c_1 P_1 : Addr} {tc_1 : Value} {td_1 : Option Addr} {tv_1 : Array Value} {ts_1 : Array (Option Value)} {dr_1 : DefRec}
    (a0 : PySem.W.nsIn K mainGlobals "may_stand" = some (some (.ref f0))) (l0 : K.lookup f0 = some ⟨oc0, od0, .func (PySem.W.fnOf "may_stand" "may_stand" (defArgs sMay) (defBody sMay) (defScope sMay) .none kV0 dc0 pm0 an0 cd0 ct0), sl0⟩)
    (c0 : PySem.W.codeIn K cd0 "may_stand" = true) (k0 : PySem.W.keepIn K (.ref f0) = true)
    (a1 : PySem.W.nsIn K mainGlobals "_law_cell" = some (some (.ref f1))) (l1 : K.lookup f1 = some ⟨oc1, od1, .func (PySem.W.fnOf "_law_cell" "_law_cell" (defArgs sCell) (defBody sCell) (defScope sCell) .none kV1 dc1 pm1 an1 cd1 ct1), sl1⟩)
    (c1 : PySem.W.codeIn K cd1 "_law_cell" = true) (k1 : PySem.W.keepIn K (.ref f1) = true)
    (a2 : PySem.W.nsIn K mainGlobals "_law_digits" = some (some (.ref f2))) (l2 : K.lookup f2 = some ⟨oc2, od2, .func (PySem.W.fnOf "_law_digits" "_law_digits" (defArgs sDigits) (defBody sDigits) (defScope sDigits) .none kV2 dc2 pm2 an2 cd2 ct2), sl2⟩)
    (c2 : PySem.W.codeIn K cd2 "_law_digits" = true) (k2 : PySem.W.keepIn K (.ref f2) = true)
    (a3 : PySem.W.nsIn K mainGlobals "_law_draw" = some (some (.ref f3))) (l3 : K.lookup f3 = some ⟨oc3, od3, .func (PySem.W.fnOf "_law_draw" "_law_draw" (defArgs sDraw) (defBody sDraw) (defScope sDraw) .none kV3 dc3 pm3 an3 cd3 ct3), sl3⟩)
    (c3 : PySem.W.codeIn K cd3 "_law_draw" = true) (k3 : PySem.W.keepIn K (.ref f3) = true)
    (a4 : PySem.W.nsIn K mainGlobals "_law_pick" = some (some (.ref f4))) (l4 : K.lookup f4 = some ⟨oc4, od4, .func (PySem.W.fnOf "_law_pick" "_law_pick" (defArgs sPick) (defBody sPick) (defScope sPick) .none kV4 dc4 pm4 an4 cd4 ct4), sl4⟩)
    (c4 : PySem.W.codeIn K cd4 "_law_pick" = true) (k4 : PySem.W.keepIn K (.ref f4) = true)
    (a5 : PySem.W.nsIn K mainGlobals "_law_number" = some (some (.ref f5))) (l5 : K.lookup f5 = some ⟨oc5, od5, .func (PySem.W.fnOf "_law_number" "_law_number" (defArgs sNb) (defBody sNb) (defScope sNb) .none kV5 dc5 pm5 an5 cd5 ct5), sl5⟩)
    (c5 : PySem.W.codeIn K cd5 "_law_number" = true) (k5 : PySem.W.keepIn K (.ref f5) = true)
    (a6 : PySem.W.nsIn K mainGlobals "_law_paper" = some (some (.ref f6))) (l6 : K.lookup f6 = some ⟨oc6, od6, .func (PySem.W.fnOf "_law_paper" "_law_paper" (defArgs sLp) (defBody sLp) (defScope sLp) .none kV6 dc6 pm6 an6 cd6 ct6), sl6⟩)
    (c6 : PySem.W.codeIn K cd6 "_law_paper" = true) (k6 : PySem.W.keepIn K (.ref f6) = true)
    (a7 : PySem.W.nsIn K mainGlobals "_law_lines" = some (some (.ref f7))) (l7 : K.lookup f7 = some ⟨oc7, od7, .func (PySem.W.fnOf "_law_lines" "_law_lines" (defArgs sLl) (defBody sLl) (defScope sLl) .none kV7 dc7 pm7 an7 cd7 ct7), sl7⟩)
    (c7 : PySem.W.codeIn K cd7 "_law_lines" = true) (k7 : PySem.W.keepIn K (.ref f7) = true)
    (a8 : PySem.W.nsIn K mainGlobals "_law_same" = some (some (.ref f8))) (l8 : K.lookup f8 = some ⟨oc8, od8, .func (PySem.W.fnOf "_law_same" "_law_same" (defArgs sSame) (defBody sSame) (defScope sSame) .none kV8 dc8 pm8 an8 cd8 ct8), sl8⟩)
    (c8 : PySem.W.codeIn K cd8 "_law_same" = true) (k8 : PySem.W.keepIn K (.ref f8) = true)
    (a9 : PySem.W.nsIn K mainGlobals "check_characters" = some (some (.ref f9))) (l9 : K.lookup f9 = some ⟨oc9, od9, .func (PySem.W.fnOf "check_characters" "check_characters" (defArgs sCc) (defBody sCc) (defScope sCc) .none kV9 dc9 pm9 an9 (.ref c_0) ct9), sl9⟩)
    (c9 : PySem.W.codeIn K (.ref c_0) "check_characters" = true) (k9 : PySem.W.keepIn K (.ref f9) = true)
    (a10 : PySem.W.nsIn K mainGlobals "words_of" = some (some (.ref f10))) (l10 : K.lookup f10 = some ⟨oc10, od10, .func (PySem.W.fnOf "words_of" "words_of" (defArgs sWd) (defBody sWd) (defScope sWd) .none kV10 dc10 pm10 an10 cd10 ct10), sl10⟩)
    (c10 : PySem.W.codeIn K cd10 "words_of" = true) (k10 : PySem.W.keepIn K (.ref f10) = true)
    (a11 : PySem.W.nsIn K mainGlobals "rows_of" = some (some (.ref f11))) (l11 : K.lookup f11 = some ⟨oc11, od11, .func (PySem.W.fnOf "rows_of" "rows_of" (defArgs sRo) (defBody sRo) (defScope sRo) .none kV11 dc11 pm11 an11 cd11 ct11), sl11⟩)
    (c11 : PySem.W.codeIn K cd11 "rows_of" = true) (k11 : PySem.W.keepIn K (.ref f11) = true)
    (a12 : PySem.W.nsIn K mainGlobals "kinds_behind" = some (some (.ref f12))) (l12 : K.lookup f12 = some ⟨oc12, od12, .func (PySem.W.fnOf "kinds_behind" "kinds_behind" (defArgs sKb) (defBody sKb) (defScope sKb) .none kV12 dc12 pm12 an12 cd12 ct12), sl12⟩)
    (c12 : PySem.W.codeIn K cd12 "kinds_behind" = true) (k12 : PySem.W.keepIn K (.ref f12) = true)
    (a13 : PySem.W.nsIn K mainGlobals "is_number" = some (some (.ref f13))) (l13 : K.lookup f13 = some ⟨oc13, od13, .func (PySem.W.fnOf "is_number" "is_number" (defArgs sNu) (defBody sNu) (defScope sNu) .none kV13 dc13 pm13 an13 (.ref c_1) ct13), sl13⟩)
    (c13 : PySem.W.codeIn K (.ref c_1) "is_number" = true) (k13 : PySem.W.keepIn K (.ref f13) = true)
    (a14 : PySem.W.nsIn K mainGlobals "read_numbers" = some (some (.ref f14))) (l14 : K.lookup f14 = some ⟨oc14, od14, .func (PySem.W.fnOf "read_numbers" "read_numbers" (defArgs sRn) (defBody sRn) (defScope sRn) .none kV14 dc14 pm14 an14 cd14 ct14), sl14⟩)
    (c14 : PySem.W.codeIn K cd14 "read_numbers" = true) (k14 : PySem.W.keepIn K (.ref f14) = true)
    (a15 : PySem.W.nsIn K mainGlobals "parse_paper" = some (some (.ref f15))) (l15 : K.lookup f15 = some ⟨oc15, od15, .func (PySem.W.fnOf "parse_paper" "parse_paper" (defArgs sPp) (defBody sPp) (defScope sPp) .none kV15 dc15 pm15 an15 cd15 ct15), sl15⟩)
    (c15 : PySem.W.codeIn K cd15 "parse_paper" = true) (k15 : PySem.W.keepIn K (.ref f15) = true)
    (a16 : PySem.W.nsIn K mainGlobals "_law_told" = some (some (.ref f16))) (l16 : K.lookup f16 = some ⟨oc16, od16, .func (PySem.W.fnOf "_law_told" "_law_told" (defArgs sTd) (defBody sTd) (defScope sTd) .none kV16 dc16 pm16 an16 cd16 ct16), sl16⟩)
    (c16 : PySem.W.codeIn K cd16 "_law_told" = true) (k16 : PySem.W.keepIn K (.ref f16) = true)
    (a17 : PySem.W.nsIn K mainGlobals "shown_paper" = some (some (.ref f17))) (l17 : K.lookup f17 = some ⟨oc17, od17, .func (PySem.W.fnOf "shown_paper" "shown_paper" (defArgs sSp) (defBody sSp) (defScope sSp) .none kV17 dc17 pm17 an17 cd17 ct17), sl17⟩)
    (c17 : PySem.W.codeIn K cd17 "shown_paper" = true) (k17 : PySem.W.keepIn K (.ref f17) = true)
    (a18 : PySem.W.nsIn K mainGlobals "_law_empty_line" = some (some (.ref f18))) (l18 : K.lookup f18 = some ⟨oc18, od18, .func (PySem.W.fnOf "_law_empty_line" "_law_empty_line" (defArgs sEl) (defBody sEl) (defScope sEl) .none kV18 dc18 pm18 an18 cd18 ct18), sl18⟩)
    (c18 : PySem.W.codeIn K cd18 "_law_empty_line" = true) (k18 : PySem.W.keepIn K (.ref f18) = true)
    (a19 : PySem.W.nsIn K mainGlobals "_law_loose" = some (some (.ref f19))) (l19 : K.lookup f19 = some ⟨oc19, od19, .func (PySem.W.fnOf "_law_loose" "_law_loose" (defArgs sLo) (defBody sLo) (defScope sLo) .none kV19 dc19 pm19 an19 cd19 ct19), sl19⟩)
    (c19 : PySem.W.codeIn K cd19 "_law_loose" = true) (k19 : PySem.W.keepIn K (.ref f19) = true)
    (a20 : PySem.W.nsIn K mainGlobals "_law_text" = some (some (.ref f20))) (l20 : K.lookup f20 = some ⟨oc20, od20, .func (PySem.W.fnOf "_law_text" "_law_text" (defArgs sTt) (defBody sTt) (defScope sTt) .none kV20 dc20 pm20 an20 cd20 ct20), sl20⟩)
    (c20 : PySem.W.codeIn K cd20 "_law_text" = true) (k20 : PySem.W.keepIn K (.ref f20) = true)
    (a21 : PySem.W.nsIn K mainGlobals "_law_spoilt" = some (some (.ref f21))) (l21 : K.lookup f21 = some ⟨oc21, od21, .func (PySem.W.fnOf "_law_spoilt" "_law_spoilt" (defArgs sLs) (defBody sLs) (defScope sLs) .none kV21 dc21 pm21 an21 cd21 ct21), sl21⟩)
    (c21 : PySem.W.codeIn K cd21 "_law_spoilt" = true) (k21 : PySem.W.keepIn K (.ref f21) = true)
    (a22 : PySem.W.nsIn K mainGlobals "law" = some (some (.ref f22))) (l22 : K.lookup f22 = some ⟨oc22, od22, .func (PySem.W.fnOf "law" "law" (defArgs sLaw) (defBody sLaw) (defScope sLaw) .none kV22 dc22 pm22 an22 cd22 ct22), sl22⟩)
    (c22 : PySem.W.codeIn K cd22 "law" = true) (k22 : PySem.W.keepIn K (.ref f22) = true)
    (lc_0 : K.lookup c_0 = some ⟨tc_0, td_0, .fields tv_0, ts_0⟩) (lp_0 : tv_0[11]? = some (.ref P_0)) (lq_0 : K.lookup P_0 = none) (hrec_0 : (recsOf q).find? (fun e => e.name == PySem.Str.ofString "check_characters") = some dr_0)
    (lc_1 : K.lookup c_1 = some ⟨tc_1, td_1, .fields tv_1, ts_1⟩) (lp_1 : tv_1[11]? = some (.ref P_1)) (lq_1 : K.lookup P_1 = none) (hrec_1 : (recsOf q).find? (fun e => e.name == PySem.Str.ofString "is_number") = some dr_1)
    (ne_0_1 : P_0 ≠ P_1)
    {tk_PERCENT_SIGN : Tok} (y_PERCENT_SIGN : PySem.W.nsIn K mainGlobals "PERCENT_SIGN" = some (some (.int 37 tk_PERCENT_SIGN)))
    {tk_MOST_DIGITS : Tok} (y_MOST_DIGITS : PySem.W.nsIn K mainGlobals "MOST_DIGITS" = some (some (.int 6 tk_MOST_DIGITS)))
    {tk_MOST_CHARACTERS : Tok} (y_MOST_CHARACTERS : PySem.W.nsIn K mainGlobals "MOST_CHARACTERS" = some (some (.int 10000 tk_MOST_CHARACTERS)))
    {C FE CE CT CP fI : Addr} {nmC qC : Str} {NC : Addr} {bsC : List Value} {snC : List Str} {subC : List Value} {abC : Bool} {colC : Option Bool} {ddC : Option Addr} {k0C k1C k2C k3C k5C : Option Value} {ocI kVI dcI pmI cdI ctI : Value} {odI anI : Option Addr} {slI : Array (Option Value)}
    (x_C : PySem.W.nsIn K mainGlobals "BadSystem" = some (some (.ref C)))
    (lC : K.lookup C = some (excClassObj nmC qC C NC bsC [.ref FE, .type "ValueError", .type "Exception", .type "BaseException", .type "object"] true snC subC abC colC ddC k0C k1C k2C k3C k5C "ValueError.__new__"))
    (saC : PySem.W.findIn K (.ref C) "__setattr__" = some (some (.builtin "object.__setattr__")))
    (exC : PySem.W.subIn K (.ref C) (.type "BaseException") = some true)
    (tyC : PySem.W.typeIn K (.ref C) = some (.type "type"))
    (kC : PySem.W.keepIn K (.ref C) = true)
    (noL : PySem.W.findIn K (.ref C) "line" = some none)
    (noR : PySem.W.findIn K (.ref C) "reason" = some none)
    (iC : PySem.W.findIn K (.ref C) "__init__" = some (some (.ref fI)))
    (tI : PySem.W.typeIn K (.ref fI) = some (.type "function"))
    (lI : K.lookup fI = some ⟨ocI, odI, .func (PySem.W.fnOf "__init__" "BadSystem.__init__" (defArgs sBsI) (defBody sBsI) (defScope sBsI) .none kVI dcI pmI anI cdI ctI), slI⟩)
    (cI : PySem.W.codeIn K cdI "BadSystem.__init__" = true)
    (kI : PySem.W.keepIn K (.ref fI) = true)
    (x_FE : PySem.W.nsIn K mainGlobals "FaultError" = some (some (.ref FE)))
    (x_CE : PySem.W.nsIn K mainGlobals "BadEntry" = some (some (.ref CE)))
    (x_CT : PySem.W.nsIn K mainGlobals "BadState" = some (some (.ref CT)))
    (x_CP : PySem.W.nsIn K mainGlobals "BadPlan" = some (some (.ref CP)))
    (gaC : PySem.W.findIn K (.ref C) "__getattribute__" = some (some (.builtin "BaseException.__getattribute__")))
    (ggC : PySem.W.findIn K (.ref C) "__getattr__" = some none)
    (hdC : PySem.W.hasDictIn K C = true)
    (clC : PySem.W.findIn K (.ref C) "__class__" = some (some (.builtin "object.__class__")))
    (spC : PySem.W.specialIn K (.builtin "object.__class__") "__get__" = some (some (.builtin "getset_descriptor.__get__")))
    (tkC : PySem.W.takesIn K (.builtin "object.__class__") = some true)
    (mrC : PySem.W.mroIn K C (.type "object") = some true)
    (exF : PySem.W.subIn K (.ref FE) (.type "BaseException") = some true)
    (hdF : PySem.W.hasDictIn K FE = true)
    (tyF : PySem.W.typeIn K (.ref FE) = some (.type "type"))
    (sF : PySem.W.subIn K (.ref C) (.ref FE) = some true)
    (neE : C ≠ CE)
    (isE : PySem.W.isClsIn K CE = true)
    (tyE : PySem.W.typeIn K (.ref CE) = some (.type "type"))
    (sE : PySem.W.subIn K (.ref C) (.ref CE) = some false)
    (neT : C ≠ CT)
    (isT : PySem.W.isClsIn K CT = true)
    (tyT : PySem.W.typeIn K (.ref CT) = some (.type "type"))
    (sT : PySem.W.subIn K (.ref C) (.ref CT) = some false)
    (neP : C ≠ CP)
    (isP : PySem.W.isClsIn K CP = true)
    (tyP : PySem.W.typeIn K (.ref CP) = some (.type "type"))
    (sP : PySem.W.subIn K (.ref C) (.ref CP) = some false)
    (z_len : PySem.W.nsIn K mainGlobals "len" = some none)
    (z_range : PySem.W.nsIn K mainGlobals "range" = some none)
    (z_int : PySem.W.nsIn K mainGlobals "int" = some none)
    (z_tuple : PySem.W.nsIn K mainGlobals "tuple" = some none)
    (z_max : PySem.W.nsIn K mainGlobals "max" = some none)
    (z_str : PySem.W.nsIn K mainGlobals "str" = some none)
    (z_repr : PySem.W.nsIn K mainGlobals "repr" = some none)
    (z_all : PySem.W.nsIn K mainGlobals "all" = some none)
    (z_ord : PySem.W.nsIn K mainGlobals "ord" = some none)
    (z_enumerate : PySem.W.nsIn K mainGlobals "enumerate" = some none)
    (z_isinstance : PySem.W.nsIn K mainGlobals "isinstance" = some none)
    (z_bool : PySem.W.nsIn K mainGlobals "bool" = some none) :
    ∃ (fd : FuncData) (cs : List (Addr × Addr)) (sp : Sp), (∀ p ∈ cs, h.get? p.2 = some { cls := .none, data := .fields #[] }) ∧ (∀ p ∈ cs, K.lookup p.2 = none) ∧ (∀ p ∈ cs, PySem.W.CodeHd h p.1 p.2) ∧
      (∀ (s : Shared) (u : Value), BindsTo s fd ⟨[u], []⟩ [("script", u)]) ∧
      (∀ base : Heap, K.In base → base.Ns mainGlobals mg → (∀ p ∈ cs, LamX.TabB base mg p.1 p.2) → GOk l.prog w K mg base 8 fa fd ["script"] sp) ∧
      (∀ (H : Hp) (a : Addr) (ns : List Int), ns.length ≤ 63 → (∀ p ∈ cs, H p.2 = some (.tbl #[])) → SqL K H a (ns.map V.int) → sp [.ref a] H (fun v _ => v = .bl true) fun _ _ _ => False) := by
  have G := T.g
  have e := hfa.symm.trans (PySem.W.mg_of X G a22)
  cases e
  have ht_0 : PySem.W.tabIn K "check_characters" = some (c_0, P_0) := by
    unfold PySem.W.tabIn
    rw [a9]
    simp only [l9]
    show (match K.lookup c_0 with | some ⟨_, _, .fields vs, _⟩ => (match (vs[11]? : Option Value) with | some (.ref P) => some (c_0, P) | _ => none) | _ => none) = some (c_0, P_0)
    rw [lc_0]
    simp only [lp_0]
  have CT_0 := PySem.W.tab_of (x := "check_characters") T X hrec_0 ht_0
  have ht_1 : PySem.W.tabIn K "is_number" = some (c_1, P_1) := by
    unfold PySem.W.tabIn
    rw [a13]
    simp only [l13]
    show (match K.lookup c_1 with | some ⟨_, _, .fields vs, _⟩ => (match (vs[11]? : Option Value) with | some (.ref P) => some (c_1, P) | _ => none) | _ => none) = some (c_1, P_1)
    rw [lc_1]
    simp only [lp_1]
  have CT_1 := PySem.W.tab_of (x := "is_number") T X hrec_1 ht_1
  have F0 := fun_mk (st := sMay) l0 c0 k0
  have b0 := F0.binds (ps := ["letter"]) fun _ _ _ _ _ _ us hl => match us, hl with | [_], _ => rfl
  have g0 := PySem.W.mg_of X G a0
  have F1 := fun_mk (st := sCell) l1 c1 k1
  have b1 := F1.binds (ps := ["script", "k"]) fun _ _ _ _ _ _ us hl => match us, hl with | [_, _], _ => rfl
  have g1 := PySem.W.mg_of X G a1
  have F2 := fun_mk (st := sDigits) l2 c2 k2
  have b2 := F2.binds (ps := ["script", "first", "last"]) fun _ _ _ _ _ _ us hl => match us, hl with | [_, _, _], _ => rfl
  have g2 := PySem.W.mg_of X G a2
  have F3 := fun_mk (st := sDraw) l3 c3 k3
  have b3 := F3.binds (ps := ["box", "many"]) fun _ _ _ _ _ _ us hl => match us, hl with | [_, _], _ => rfl
  have g3 := PySem.W.mg_of X G a3
  have F4 := fun_mk (st := sPick) l4 c4 k4
  have b4 := F4.binds (ps := ["box", "things"]) fun _ _ _ _ _ _ us hl => match us, hl with | [_, _], _ => rfl
  have g4 := PySem.W.mg_of X G a4
  have F5 := fun_mk (st := sNb) l5 c5 k5
  have b5 := F5.binds (ps := ["box", "most"]) fun _ _ _ _ _ _ us hl => match us, hl with | [_, _], _ => rfl
  have g5 := PySem.W.mg_of X G a5
  have F6 := fun_mk (st := sLp) l6 c6 k6
  have b6 := F6.binds (ps := ["box", "many"]) fun _ _ _ _ _ _ us hl => match us, hl with | [_, _], _ => rfl
  have g6 := PySem.W.mg_of X G a6
  have F7 := fun_mk (st := sLl) l7 c7 k7
  have b7 := F7.binds (ps := ["paper"]) fun _ _ _ _ _ _ us hl => match us, hl with | [_], _ => rfl
  have g7 := PySem.W.mg_of X G a7
  have F8 := fun_mk (st := sSame) l8 c8 k8
  have b8 := F8.binds (ps := ["actual", "due"]) fun _ _ _ _ _ _ us hl => match us, hl with | [_, _], _ => rfl
  have g8 := PySem.W.mg_of X G a8
  have F9 := fun_mk (st := sCc) l9 c9 k9
  have b9 := F9.binds (ps := ["text", "most"]) fun _ _ _ _ _ _ us hl => match us, hl with | [_, _], _ => rfl
  have g9 := PySem.W.mg_of X G a9
  have F10 := fun_mk (st := sWd) l10 c10 k10
  have b10 := F10.binds (ps := ["row"]) fun _ _ _ _ _ _ us hl => match us, hl with | [_], _ => rfl
  have g10 := PySem.W.mg_of X G a10
  have F11 := fun_mk (st := sRo) l11 c11 k11
  have b11 := F11.binds (ps := ["text", "most"]) fun _ _ _ _ _ _ us hl => match us, hl with | [_, _], _ => rfl
  have g11 := PySem.W.mg_of X G a11
  have F12 := fun_mk (st := sKb) l12 c12 k12
  have b12 := F12.binds (ps := ["kinds"]) fun _ _ _ _ _ _ us hl => match us, hl with | [_], _ => rfl
  have g12 := PySem.W.mg_of X G a12
  have F13 := fun_mk (st := sNu) l13 c13 k13
  have b13 := F13.binds (ps := ["word"]) fun _ _ _ _ _ _ us hl => match us, hl with | [_], _ => rfl
  have g13 := PySem.W.mg_of X G a13
  have F14 := fun_mk (st := sRn) l14 c14 k14
  have b14 := F14.binds (ps := ["line", "words", "many"]) fun _ _ _ _ _ _ us hl => match us, hl with | [_, _, _], _ => rfl
  have g14 := PySem.W.mg_of X G a14
  have F15 := fun_mk (st := sPp) l15 c15 k15
  have b15 := F15.binds (ps := ["text", "many"]) fun _ _ _ _ _ _ us hl => match us, hl with | [_, _], _ => rfl
  have g15 := PySem.W.mg_of X G a15
  have F16 := fun_mk (st := sTd) l16 c16 k16
  have b16 := F16.binds (ps := ["text", "many"]) fun _ _ _ _ _ _ us hl => match us, hl with | [_, _], _ => rfl
  have g16 := PySem.W.mg_of X G a16
  have F17 := fun_mk (st := sSp) l17 c17 k17
  have b17 := F17.binds (ps := ["paper"]) fun _ _ _ _ _ _ us hl => match us, hl with | [_], _ => rfl
  have g17 := PySem.W.mg_of X G a17
  have F18 := fun_mk (st := sEl) l18 c18 k18
  have b18 := F18.binds (ps := ["box"]) fun _ _ _ _ _ _ us hl => match us, hl with | [_], _ => rfl
  have g18 := PySem.W.mg_of X G a18
  have F19 := fun_mk (st := sLo) l19 c19 k19
  have b19 := F19.binds (ps := ["box", "words"]) fun _ _ _ _ _ _ us hl => match us, hl with | [_, _], _ => rfl
  have g19 := PySem.W.mg_of X G a19
  have F20 := fun_mk (st := sTt) l20 c20 k20
  have b20 := F20.binds (ps := ["box", "lines"]) fun _ _ _ _ _ _ us hl => match us, hl with | [_, _], _ => rfl
  have g20 := PySem.W.mg_of X G a20
  have F21 := fun_mk (st := sLs) l21 c21 k21
  have b21 := F21.binds (ps := ["box", "lines"]) fun _ _ _ _ _ _ us hl => match us, hl with | [_, _], _ => rfl
  have g21 := PySem.W.mg_of X G a21
  have F22 := fun_mk (st := sLaw) l22 c22 k22
  have m_PERCENT_SIGN := PySem.W.mg_of X G y_PERCENT_SIGN
  have m_MOST_DIGITS := PySem.W.mg_of X G y_MOST_DIGITS
  have m_MOST_CHARACTERS := PySem.W.mg_of X G y_MOST_CHARACTERS
  have m_len := PySem.W.mg_none_of X G z_len
  have m_C := PySem.W.mg_of X G x_C
  have m_FE := PySem.W.mg_of X G x_FE
  have m_CE := PySem.W.mg_of X G x_CE
  have m_CT := PySem.W.mg_of X G x_CT
  have m_CP := PySem.W.mg_of X G x_CP
  have FI := fun_mk (st := sBsI) lI cI kI
  have bI := FI.binds (ps := ["self", "line", "reason"]) fun _ _ _ _ _ _ us hl => match us, hl with | [_, _, _], _ => rfl
  have m_range := PySem.W.mg_none_of X G z_range
  have m_int := PySem.W.mg_none_of X G z_int
  have m_tuple := PySem.W.mg_none_of X G z_tuple
  have m_max := PySem.W.mg_none_of X G z_max
  have m_str := PySem.W.mg_none_of X G z_str
  have m_repr := PySem.W.mg_none_of X G z_repr
  have m_all := PySem.W.mg_none_of X G z_all
  have m_ord := PySem.W.mg_none_of X G z_ord
  have m_enumerate := PySem.W.mg_none_of X G z_enumerate
  have m_isinstance := PySem.W.mg_none_of X G z_isinstance
  have m_bool := PySem.W.mg_none_of X G z_bool
  refine ⟨PySem.W.fnOf "law" "law" (defArgs sLaw) (defBody sLaw) (defScope sLaw) .none kV22 dc22 pm22 an22 cd22 ct22, [(c_0, P_0), (c_1, P_1)], spLaw [P_0, P_1] K, fun p hp => ?_, fun p hp => ?_, fun p hp => ?_, fun s v => .of_eq rfl, fun base _ _ hTB => ?_, fun H a ns hl hT hS => ?_⟩
  · simp only [List.mem_cons, List.not_mem_nil, or_false] at hp
    rcases hp with rfl | rfl
    · exact CT_0.2
    · exact CT_1.2
  · simp only [List.mem_cons, List.not_mem_nil, or_false] at hp
    rcases hp with rfl | rfl
    · exact lq_0
    · exact lq_1
  · simp only [List.mem_cons, List.not_mem_nil, or_false] at hp
    rcases hp with rfl | rfl
    · exact CT_0.1
    · exact CT_1.1
  · have TB_0 := hTB (c_0, P_0) (by simp)
    have TB_1 := hTB (c_1, P_1) (by simp)
    have BC : BsC K mg C := ⟨m_C, ⟨⟨nmC, qC, NC, bsC, _, snC, subC, abC, colC, ddC, k0C, k1C, k2C, k3C, k5C, lC, rfl⟩, saC, exC, tyC, kC⟩, noL, noR⟩
    have GI_ := ok_bsI (P := l.prog) (w := w) (mg := mg) (base := base) FI BC
    have BT : BsT l.prog w K mg base C fI _ := { toBsC := BC, iC := iC, tI := tI, G := GI_, b := bI }
    have TC : TbC K mg C FE CE CT CP := { gC := m_C, gF := m_FE, gE := m_CE, gT := m_CT, gP := m_CP, noL := noL, noR := noR, X := ⟨gaC, ggC, exC, hdC, clC, spC, tkC, mrC⟩, xf := ⟨gaC, ggC, exC, hdC⟩, ex := PySem.W.exm_ref exF hdF tyF sF, iE := kit_refB (ref_ne neE) isE tyE sE, iT := kit_refB (ref_ne neT) isT tyT sT, iP := kit_refB (ref_ne neP) isP tyP sP, iS := kit_self }
    have G1_spCell := ok_cell (P := l.prog) (w := w) (mg := mg) (base := base) F1 m_len
    have G2_spDigits := ok_digits F2 F1 G1_spCell b1 g1 m_range m_int
    have G3_spDraw := ok_draw (P := l.prog) (w := w) (mg := mg) (base := base) F3 m_len m_int
    have G4_spPickV := ok_pickV F4 F3 G3_spDraw b3 g3 m_int m_len
    have G5_spNb := ok_nb F5 F4 G4_spPickV b4 g4 F3 G3_spDraw b3 g3 m_int
    have G6_spLp := ok_lp F6 F3 G3_spDraw b3 g3 F5 G5_spNb b5 g5 m_range m_tuple m_max
    have G7_spLl := ok_ll (P := l.prog) (w := w) (mg := mg) (base := base) F7 m_str
    have G8_spSame := ok_same (P := l.prog) (w := w) (mg := mg) (base := base) F8 m_repr
    have G9_spCc := ok_cc (P := l.prog) (w := w) (mg := mg) (base := base) l9 c9 TB_0 (show P_0 ∈ [P_0, P_1] by simp) F0 b0 g0 BT m_len m_all m_ord m_PERCENT_SIGN
    have G10_spWd := ok_wd (P := l.prog) (w := w) (mg := mg) (base := base) F10
    have G11_spRo := ok_ro F11 k9 G9_spCc b9 g9 F10 G10_spWd b10 g10 m_enumerate m_len
    have G12_spKb := ok_kb (P := l.prog) (w := w) (mg := mg) (base := base) F12 m_len
    have G13_spNu := ok_nu (P := l.prog) (w := w) (mg := mg) (base := base) l13 c13 TB_1 (show P_1 ∈ [P_0, P_1] by simp) m_len m_all m_MOST_DIGITS
    have G14_spRn := ok_rn F14 k13 G13_spNu b13 g13 m_len m_all m_int m_tuple BT
    have G15_spPp := ok_pp F15 F11 G11_spRo b11 g11 F12 G12_spKb b12 g12 F14 G14_spRn b14 g14 m_tuple m_len m_MOST_CHARACTERS BT
    have G16_spTd := ok_td F16 F15 G15_spPp b15 g15 TC m_isinstance m_bool
    have G17_spSp := ok_sp (P := l.prog) (w := w) (mg := mg) (base := base) F17 m_str
    have G18_spEl := ok_el F18 F4 G4_spPickV b4 g4
    have G19_spLo := ok_lo F19 F3 G3_spDraw b3 g3 F4 G4_spPickV b4 g4
    have G20_spTt := ok_tt F20 F3 G3_spDraw b3 g3 F18 G18_spEl b18 g18 F19 G19_spLo b19 g19 m_range
    have G21_spLs := ok_ls F21 F3 G3_spDraw b3 g3 F4 G4_spPickV b4 g4 m_len m_int
    exact ok_law F22 F2 G2_spDigits b2 g2 F3 G3_spDraw b3 g3 F6 G6_spLp b6 g6 F7 G7_spLl b7 g7 F8 G8_spSame b8 g8 F16 G16_spTd b16 g16 F17 G17_spSp b17 g17 F20 G20_spTt b20 g20 F21 G21_spLs b21 g21 F4 G4_spPickV b4 g4 m_range m_int m_len
  · have hP_0 := hT (c_0, P_0) (by simp)
    have hP_1 := hT (c_1, P_1) (by simp)
    exact ⟨a, ns, rfl, hS, hl, (fun z hz => by
        simp only [List.mem_cons, List.not_mem_nil, or_false] at hz
        rcases hz with rfl | rfl
        · exact ⟨#[], hP_0, True.intro⟩
        · exact ⟨#[], hP_1, True.intro⟩), fun _ => rfl⟩
end Fd

open PySem PySem.W PyProof.Rows in
set_option maxRecDepth 100000 in
set_option maxHeartbeats 0 in
theorem PySem.Challenge.cw_faultdue_k33_paper_texts_holds : PySem.Challenge.rw_faultdue_k33_paper_texts.Holds := by
  w_on; o_law; k_head; (case hw => w_witness2)
  k_fill
  refine Fd.walk_ofT (l := PySem.Challenge.rw_faultdue_k33_paper_texts) (n := 63) (k := 8) (x := "script") rfl (by decide) rfl ⟨rfl, by decide, by decide⟩ (fun w h Y => PySem.W.kIn_of Y) ?F
  case F =>
    intro w mg mb lo mean fa h T KX hmg
    refine' Fd.all_mk T KX hmg ?a0 ?l0 ?c0 ?k0 ?a1 ?l1 ?c1 ?k1 ?a2 ?l2 ?c2 ?k2 ?a3 ?l3 ?c3 ?k3 ?a4 ?l4 ?c4 ?k4 ?a5 ?l5 ?c5 ?k5 ?a6 ?l6 ?c6 ?k6 ?a7 ?l7 ?c7 ?k7 ?a8 ?l8 ?c8 ?k8 ?a9 ?l9 ?c9 ?k9 ?a10 ?l10 ?c10 ?k10 ?a11 ?l11 ?c11 ?k11 ?a12 ?l12 ?c12 ?k12 ?a13 ?l13 ?c13 ?k13 ?a14 ?l14 ?c14 ?k14 ?a15 ?l15 ?c15 ?k15 ?a16 ?l16 ?c16 ?k16 ?a17 ?l17 ?c17 ?k17 ?a18 ?l18 ?c18 ?k18 ?a19 ?l19 ?c19 ?k19 ?a20 ?l20 ?c20 ?k20 ?a21 ?l21 ?c21 ?k21 ?a22 ?l22 ?c22 ?k22 ?lc_0 ?lp_0 ?lq_0 ?hrec_0 ?lc_1 ?lp_1 ?lq_1 ?hrec_1 ?ne_0_1 ?y_PERCENT_SIGN ?y_MOST_DIGITS ?y_MOST_CHARACTERS ?x_C ?lC ?saC ?exC ?tyC ?kC ?noL ?noR ?iC ?tI ?lI ?cI ?kI ?x_FE ?x_CE ?x_CT ?x_CP ?gaC ?ggC ?hdC ?clC ?spC ?tkC ?mrC ?exF ?hdF ?tyF ?sF ?neE ?isE ?tyE ?sE ?neT ?isT ?tyT ?sT ?neP ?isP ?tyP ?sP ?z_len ?z_range ?z_int ?z_tuple ?z_max ?z_str ?z_repr ?z_all ?z_ord ?z_enumerate ?z_isinstance ?z_bool
    (case a0 => k_is)
    (case l0 => k_is)
    (case c0 => k_is)
    (case k0 => k_is)
    (case a1 => k_is)
    (case l1 => k_is)
    (case c1 => k_is)
    (case k1 => k_is)
    (case a2 => k_is)
    (case l2 => k_is)
    (case c2 => k_is)
    (case k2 => k_is)
    (case a3 => k_is)
    (case l3 => k_is)
    (case c3 => k_is)
    (case k3 => k_is)
    (case a4 => k_is)
    (case l4 => k_is)
    (case c4 => k_is)
    (case k4 => k_is)
    (case a5 => k_is)
    (case l5 => k_is)
    (case c5 => k_is)
    (case k5 => k_is)
    (case a6 => k_is)
    (case l6 => k_is)
    (case c6 => k_is)
    (case k6 => k_is)
    (case a7 => k_is)
    (case l7 => k_is)
    (case c7 => k_is)
    (case k7 => k_is)
    (case a8 => k_is)
    (case l8 => k_is)
    (case c8 => k_is)
    (case k8 => k_is)
    (case a9 => k_is)
    (case l9 => k_is)
    (case c9 => k_is)
    (case k9 => k_is)
    (case a10 => k_is)
    (case l10 => k_is)
    (case c10 => k_is)
    (case k10 => k_is)
    (case a11 => k_is)
    (case l11 => k_is)
    (case c11 => k_is)
    (case k11 => k_is)
    (case a12 => k_is)
    (case l12 => k_is)
    (case c12 => k_is)
    (case k12 => k_is)
    (case a13 => k_is)
    (case l13 => k_is)
    (case c13 => k_is)
    (case k13 => k_is)
    (case a14 => k_is)
    (case l14 => k_is)
    (case c14 => k_is)
    (case k14 => k_is)
    (case a15 => k_is)
    (case l15 => k_is)
    (case c15 => k_is)
    (case k15 => k_is)
    (case a16 => k_is)
    (case l16 => k_is)
    (case c16 => k_is)
    (case k16 => k_is)
    (case a17 => k_is)
    (case l17 => k_is)
    (case c17 => k_is)
    (case k17 => k_is)
    (case a18 => k_is)
    (case l18 => k_is)
    (case c18 => k_is)
    (case k18 => k_is)
    (case a19 => k_is)
    (case l19 => k_is)
    (case c19 => k_is)
    (case k19 => k_is)
    (case a20 => k_is)
    (case l20 => k_is)
    (case c20 => k_is)
    (case k20 => k_is)
    (case a21 => k_is)
    (case l21 => k_is)
    (case c21 => k_is)
    (case k21 => k_is)
    (case a22 => k_is)
    (case l22 => k_is)
    (case c22 => k_is)
    (case k22 => k_is)
    (case lc_0 => k_is)
    (case lp_0 => rfl)
    (case lq_0 => kernel_rfl)
    (case hrec_0 => rfl)
    (case lc_1 => k_is)
    (case lp_1 => rfl)
    (case lq_1 => kernel_rfl)
    (case hrec_1 => rfl)
    (case ne_0_1 => decide)
    (case y_PERCENT_SIGN => k_is)
    (case y_MOST_DIGITS => k_is)
    (case y_MOST_CHARACTERS => k_is)
    (case x_C => first | k_is | rfl | kernel_rfl | decide +kernel)
    (case lC => first | k_is | rfl | kernel_rfl | decide +kernel)
    (case saC => first | k_is | rfl | kernel_rfl | decide +kernel)
    (case exC => first | k_is | rfl | kernel_rfl | decide +kernel)
    (case tyC => first | k_is | rfl | kernel_rfl | decide +kernel)
    (case kC => first | k_is | rfl | kernel_rfl | decide +kernel)
    (case noL => first | k_is | rfl | kernel_rfl | decide +kernel)
    (case noR => first | k_is | rfl | kernel_rfl | decide +kernel)
    (case iC => first | k_is | rfl | kernel_rfl | decide +kernel)
    (case tI => first | k_is | rfl | kernel_rfl | decide +kernel)
    (case lI => first | k_is | rfl | kernel_rfl | decide +kernel)
    (case cI => first | k_is | rfl | kernel_rfl | decide +kernel)
    (case kI => first | k_is | rfl | kernel_rfl | decide +kernel)
    (case x_FE => first | k_is | rfl | kernel_rfl | decide +kernel)
    (case x_CE => first | k_is | rfl | kernel_rfl | decide +kernel)
    (case x_CT => first | k_is | rfl | kernel_rfl | decide +kernel)
    (case x_CP => first | k_is | rfl | kernel_rfl | decide +kernel)
    (case gaC => first | k_is | rfl | kernel_rfl | decide +kernel)
    (case ggC => first | k_is | rfl | kernel_rfl | decide +kernel)
    (case hdC => first | k_is | rfl | kernel_rfl | decide +kernel)
    (case clC => first | k_is | rfl | kernel_rfl | decide +kernel)
    (case spC => first | k_is | rfl | kernel_rfl | decide +kernel)
    (case tkC => first | k_is | rfl | kernel_rfl | decide +kernel)
    (case mrC => first | k_is | rfl | kernel_rfl | decide +kernel)
    (case exF => first | k_is | rfl | kernel_rfl | decide +kernel)
    (case hdF => first | k_is | rfl | kernel_rfl | decide +kernel)
    (case tyF => first | k_is | rfl | kernel_rfl | decide +kernel)
    (case sF => first | k_is | rfl | kernel_rfl | decide +kernel)
    (case neE => decide)
    (case isE => first | k_is | rfl | kernel_rfl | decide +kernel)
    (case tyE => first | k_is | rfl | kernel_rfl | decide +kernel)
    (case sE => first | k_is | rfl | kernel_rfl | decide +kernel)
    (case neT => decide)
    (case isT => first | k_is | rfl | kernel_rfl | decide +kernel)
    (case tyT => first | k_is | rfl | kernel_rfl | decide +kernel)
    (case sT => first | k_is | rfl | kernel_rfl | decide +kernel)
    (case neP => decide)
    (case isP => first | k_is | rfl | kernel_rfl | decide +kernel)
    (case tyP => first | k_is | rfl | kernel_rfl | decide +kernel)
    (case sP => first | k_is | rfl | kernel_rfl | decide +kernel)
    (case z_len => k_is)
    (case z_range => k_is)
    (case z_int => k_is)
    (case z_tuple => k_is)
    (case z_max => k_is)
    (case z_str => k_is)
    (case z_repr => k_is)
    (case z_all => k_is)
    (case z_ord => k_is)
    (case z_enumerate => k_is)
    (case z_isinstance => k_is)
    (case z_bool => k_is)
