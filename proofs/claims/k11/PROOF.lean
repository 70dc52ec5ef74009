import PyProof.Rows.All
import Wide.All
import OpenK.AllK
import Wide.FinOn
import HandS.ForMost
import HandS.ForExc
import HandS.Defaults
import HandS.IsInst
import HandS.Flow
import HandS.HeadHook1
import HandS.Evl
import HandS.HotCalls
import HandS.ExcIs
import KE.KStateDown
import Lean
import HandS.More
import HandS.Head0
import HandS.Head1
import HandS.Head2
import HandS.HeadEnd
import HandS.HeadHook2
import HandS.AnyAll
import KE.KNest
import KE.KNestM
import HandS.Lambda
import HandS.EndTab
import HandS.HeadWalk
import HandS.HeadHook4
import HandS.Text
import HandS.Walk
import HandS.Flt
import HandS.Conv
import PyProof.Rows.StrRev
import HandS.Style
import HandS.SortKw
import KE.DataMinMax
import PyProof.Draws
import PyProof.EnumMake
import HandS.RevRange
import KE.GoesMore
import HandS.SortRule
import KE.DatumOrd
import PyProof.GenCompD
import PyProof.ConsumeS
import HandS.SetFor
import PyProof.Rows.StrInSeq3
import HandS.TupSets
import HandS.SetTxt0
import PySem.Challenge.RW_nearword_k11_whole_near_by_rows
set_option Elab.async false
set_option linter.all false
set_option maxRecDepth 100000
set_option maxHeartbeats 1000000
/-! Lev: the distance of two words, by its rows and by its rows of changes. Core Lean. -/
namespace Lv
/-- n changes lead from the one to the other, told from the front -/
inductive E : Nat → List Nat → List Nat → Prop where
  | nil : E 0 [] []
  | ins {n : Nat} {a b : List Nat} (y : Nat) (h : E n a b) : E (n + 1) a (y :: b)
  | del {n : Nat} {a b : List Nat} (x : Nat) (h : E n a b) : E (n + 1) (x :: a) b
  | keep {n : Nat} {a b : List Nat} (x : Nat) (h : E n a b) : E n (x :: a) (x :: b)
  | sub {n : Nat} {a b : List Nat} (x y : Nat) (h : E n a b) : E (n + 1) (x :: a) (y :: b)
def lev : List Nat → List Nat → Nat
  | [], b => b.length
  | x :: a, [] => a.length + 1
  | x :: a, y :: b => min (lev a b + if x = y then 0 else 1) (min (lev a (y :: b) + 1) (lev (x :: a) b + 1))
theorem lev_nil_left (b : List Nat) : lev [] b = b.length := by cases b <;> simp [lev]
theorem lev_nil_right (a : List Nat) : lev a [] = a.length := by cases a <;> simp [lev]
theorem lev_cc (x y : Nat) (a b : List Nat) : lev (x :: a) (y :: b) = min (lev a b + if x = y then 0 else 1) (min (lev a (y :: b) + 1) (lev (x :: a) b + 1)) := by
  rw [lev]
theorem E.of_nil_left : ∀ b : List Nat, E b.length [] b
  | [] => .nil
  | y :: b => .ins y (E.of_nil_left b)
theorem E.of_nil_right : ∀ a : List Nat, E a.length a []
  | [] => .nil
  | x :: a => .del x (E.of_nil_right a)
theorem E.lev : ∀ (a b : List Nat), E (lev a b) a b
  | [], b => by rw [lev_nil_left]; exact E.of_nil_left b
  | x :: a, [] => by rw [lev_nil_right]; exact E.of_nil_right _
  | x :: a, y :: b => by
    have h1 := E.lev a b
    have h2 := E.lev a (y :: b)
    have h3 := E.lev (x :: a) b
    rw [lev_cc]
    rcases Nat.le_total (Lv.lev a b + if x = y then 0 else 1) (min (Lv.lev a (y :: b) + 1) (Lv.lev (x :: a) b + 1)) with h | h
    · rw [Nat.min_eq_left h]
      by_cases e : x = y
      · subst e; rw [if_pos rfl]; exact .keep x h1
      · rw [if_neg e]; exact .sub x y h1
    · rw [Nat.min_eq_right h]
      rcases Nat.le_total (Lv.lev a (y :: b) + 1) (Lv.lev (x :: a) b + 1) with h | h
      · rw [Nat.min_eq_left h]; exact .del x h2
      · rw [Nat.min_eq_right h]; exact .ins y h3
termination_by a b => a.length + b.length
theorem lev_le {n : Nat} {a b : List Nat} (h : E n a b) : lev a b ≤ n := by
  induction h with
  | nil => simp [lev]
  | @ins n a b y h ih =>
    cases a with
    | nil => rw [lev_nil_left] at ih ⊢; simp only [List.length_cons]; omega
    | cons x a => rw [lev_cc]; omega
  | @del n a b x h ih =>
    cases b with
    | nil => rw [lev_nil_right] at ih ⊢; simp only [List.length_cons]; omega
    | cons y b => rw [lev_cc]; omega
  | keep x h ih => rw [lev_cc, if_pos rfl]; omega
  | sub x y h ih => rw [lev_cc]; split <;> omega
theorem E.symm {n : Nat} {a b : List Nat} (h : E n a b) : E n b a := by
  induction h with
  | nil => exact .nil
  | ins y h ih => exact .del y ih
  | del x h ih => exact .ins x ih
  | keep x h ih => exact .keep x ih
  | sub x y h ih => exact .sub y x ih
theorem E.app {n m : Nat} {a b c d : List Nat} (h : E n a b) (k : E m c d) : E (n + m) (a ++ c) (b ++ d) := by
  induction h with
  | nil => rw [Nat.zero_add]; exact k
  | @ins n a b y h ih => rw [show n + 1 + m = n + m + 1 by omega]; exact .ins y ih
  | @del n a b x h ih => rw [show n + 1 + m = n + m + 1 by omega]; exact .del x ih
  | keep x h ih => exact .keep x ih
  | @sub n a b x y h ih => rw [show n + 1 + m = n + m + 1 by omega]; exact .sub x y ih
theorem E.rev {n : Nat} {a b : List Nat} (h : E n a b) : E n a.reverse b.reverse := by
  induction h with
  | nil => exact .nil
  | @ins n a b y h ih =>
    rw [List.reverse_cons]
    have := ih.app (E.ins y .nil)
    rw [List.append_nil] at this; exact this
  | @del n a b x h ih =>
    rw [List.reverse_cons]
    have := ih.app (E.del x .nil)
    rw [List.append_nil] at this; exact this
  | @keep n a b x h ih =>
    rw [List.reverse_cons, List.reverse_cons]
    exact ih.app (E.keep x .nil)
  | @sub n a b x y h ih =>
    rw [List.reverse_cons, List.reverse_cons]
    exact ih.app (E.sub x y .nil)
theorem E.refl : ∀ a : List Nat, E 0 a a
  | [] => .nil
  | x :: a => .keep x (E.refl a)
theorem E.eq_of_zero {n : Nat} {a b : List Nat} (h : E n a b) (hn : n = 0) : a = b := by
  induction h with
  | nil => rfl
  | ins y h ih => cases hn
  | del x h ih => cases hn
  | keep x h ih => rw [ih hn]
  | sub x y h ih => cases hn
theorem E.trans {n : Nat} {a b : List Nat} (h : E n a b) : ∀ {m : Nat} {c : List Nat}, E m b c → ∃ k, k ≤ n + m ∧ E k a c := by
  induction h with
  | nil => exact fun {m c} k => ⟨m, by omega, k⟩
  | @ins n a b y h ih =>
    intro m c k
    generalize hb : y :: b = yb at k
    induction k with
    | nil => cases hb
    | @ins m' b' c' z k ih2 =>
      obtain ⟨j, h1, h2⟩ := ih2 hb
      exact ⟨j + 1, by omega, .ins z h2⟩
    | @del m' b' c' z k ih2 =>
      injection hb with h1 h2
      subst h1 h2
      obtain ⟨j, h1, h2⟩ := ih k
      exact ⟨j, by omega, h2⟩
    | @keep m' b' c' z k ih2 =>
      injection hb with h1 h2
      subst h1 h2
      obtain ⟨j, h1, h2⟩ := ih k
      exact ⟨j + 1, by omega, .ins _ h2⟩
    | @sub m' b' c' z w k ih2 =>
      injection hb with h1 h2
      subst h1 h2
      obtain ⟨j, h1, h2⟩ := ih k
      exact ⟨j + 1, by omega, .ins _ h2⟩
  | @del n a b x h ih =>
    intro m c k
    obtain ⟨j, h1, h2⟩ := ih k
    exact ⟨j + 1, by omega, .del x h2⟩
  | @keep n a b x h ih =>
    intro m c k
    generalize hb : x :: b = yb at k
    induction k with
    | nil => cases hb
    | @ins m' b' c' z k ih2 =>
      obtain ⟨j, h1, h2⟩ := ih2 hb
      exact ⟨j + 1, by omega, .ins z h2⟩
    | @del m' b' c' z k ih2 =>
      injection hb with h1 h2
      subst h1 h2
      obtain ⟨j, h1, h2⟩ := ih k
      exact ⟨j + 1, by omega, .del _ h2⟩
    | @keep m' b' c' z k ih2 =>
      injection hb with h1 h2
      subst h1 h2
      obtain ⟨j, h1, h2⟩ := ih k
      exact ⟨j, by omega, .keep _ h2⟩
    | @sub m' b' c' z w k ih2 =>
      injection hb with h1 h2
      subst h1 h2
      obtain ⟨j, h1, h2⟩ := ih k
      exact ⟨j + 1, by omega, .sub _ _ h2⟩
  | @sub n a b x y h ih =>
    intro m c k
    generalize hb : y :: b = yb at k
    induction k with
    | nil => cases hb
    | @ins m' b' c' z k ih2 =>
      obtain ⟨j, h1, h2⟩ := ih2 hb
      exact ⟨j + 1, by omega, .ins z h2⟩
    | @del m' b' c' z k ih2 =>
      injection hb with h1 h2
      subst h1 h2
      obtain ⟨j, h1, h2⟩ := ih k
      exact ⟨j + 1, by omega, .del _ h2⟩
    | @keep m' b' c' z k ih2 =>
      injection hb with h1 h2
      subst h1 h2
      obtain ⟨j, h1, h2⟩ := ih k
      exact ⟨j + 1, by omega, .sub _ _ h2⟩
    | @sub m' b' c' z w k ih2 =>
      injection hb with h1 h2
      subst h1 h2
      obtain ⟨j, h1, h2⟩ := ih k
      exact ⟨j + 1, by omega, .sub _ _ h2⟩
theorem E.len {n : Nat} {a b : List Nat} (h : E n a b) : a.length ≤ b.length + n ∧ b.length ≤ a.length + n := by
  induction h with
  | nil => simp
  | ins y h ih => simp only [List.length_cons]; omega
  | del x h ih => simp only [List.length_cons]; omega
  | keep x h ih => simp only [List.length_cons]; omega
  | sub x y h ih => simp only [List.length_cons]; omega
theorem E.most : ∀ (a b : List Nat), ∃ n, n ≤ max a.length b.length ∧ E n a b
  | [], b => ⟨b.length, by simp, E.of_nil_left b⟩
  | x :: a, [] => ⟨a.length + 1, by simp, E.of_nil_right (x :: a)⟩
  | x :: a, y :: b => by
    obtain ⟨n, h1, h2⟩ := E.most a b
    exact ⟨n + 1, by simp only [List.length_cons]; omega, .sub x y h2⟩
/-! ### the distance -/
theorem lev_rev (a b : List Nat) : lev a.reverse b.reverse = lev a b := by
  have h1 := lev_le (E.lev a b).rev
  have h2 := (E.lev a.reverse b.reverse).rev
  rw [List.reverse_reverse, List.reverse_reverse] at h2
  have h3 := lev_le h2
  omega
theorem lev_symm (a b : List Nat) : lev a b = lev b a := by
  have h1 := lev_le (E.lev a b).symm
  have h2 := lev_le (E.lev b a).symm
  omega
theorem lev_tri (a b c : List Nat) : lev a c ≤ lev a b + lev b c := by
  obtain ⟨k, h1, h2⟩ := (E.lev a b).trans (E.lev b c)
  have := lev_le h2
  omega
theorem lev_self (a : List Nat) : lev a a = 0 := by have := lev_le (E.refl a); omega
theorem lev_zero {a b : List Nat} : lev a b = 0 ↔ a = b := by
  constructor
  · intro h; exact (E.lev a b).eq_of_zero h
  · intro h; rw [h]; exact lev_self b
theorem lev_len (a b : List Nat) : a.length ≤ b.length + lev a b ∧ b.length ≤ a.length + lev a b := (E.lev a b).len
theorem lev_most (a b : List Nat) : lev a b ≤ max a.length b.length := by
  obtain ⟨n, h1, h2⟩ := E.most a b
  have := lev_le h2
  omega
/-- the recurrence at the ends -/
theorem lev_snoc (a b : List Nat) (x y : Nat) : lev (a ++ [x]) (b ++ [y]) = min (lev a b + if x = y then 0 else 1) (min (lev a (b ++ [y]) + 1) (lev (a ++ [x]) b + 1)) := by
  have e : ∀ (c d : List Nat), lev c d = lev c.reverse d.reverse := fun c d => (lev_rev c d).symm
  rw [e (a ++ [x]) (b ++ [y]), e a (b ++ [y]), e (a ++ [x]) b, e a b]
  simp only [List.reverse_append, List.reverse_cons, List.reverse_nil, List.nil_append, List.singleton_append]
  exact lev_cc x y _ _
theorem lev_one (a : List Nat) (x : Nat) : lev a (a ++ [x]) ≤ 1 := by
  have := (E.refl a).app (E.ins x .nil)
  rw [List.append_nil] at this
  have := lev_le this
  omega
theorem lev_same_end (a b : List Nat) (x : Nat) : lev (a ++ [x]) (b ++ [x]) = lev a b := by
  rw [lev_snoc, if_pos rfl]
  have h1 := lev_tri a (b ++ [x]) b
  have h2 := lev_one b x
  rw [lev_symm] at h2
  have h3 := lev_tri a (a ++ [x]) b
  have h4 := lev_one a x
  omega
theorem lev_same_front (a b : List Nat) (x : Nat) : lev (x :: a) (x :: b) = lev a b := by
  rw [← lev_rev (x :: a), ← lev_rev a, List.reverse_cons, List.reverse_cons, lev_same_end]
/-! ### rows -/
/-- the distances of p and b's beginnings -/
def row (p b : List Nat) : List Nat := (List.range (b.length + 1)).map fun j => lev p (b.take j)
theorem row_len (p b : List Nat) : (row p b).length = b.length + 1 := by simp [row]
theorem row_get {p b : List Nat} {j : Nat} (h : j ≤ b.length) : (row p b)[j]? = some (lev p (b.take j)) := by
  unfold row
  rw [List.getElem?_map, List.getElem?_range (by omega)]; rfl
theorem row_nil (b : List Nat) : row [] b = List.range (b.length + 1) := by
  unfold row
  refine List.ext_getElem (by simp) fun i h1 h2 => ?_
  simp only [List.getElem_map, List.getElem_range, lev_nil_left, List.length_take]
  simp at h1
  omega
theorem lev_take {p b : List Nat} {j x y : Nat} (h : b[j]? = some y) : lev (p ++ [x]) (b.take (j + 1)) = min (lev p (b.take j) + if y = x then 0 else 1) (min (lev p (b.take (j + 1)) + 1) (lev (p ++ [x]) (b.take j) + 1)) := by
  have e : b.take (j + 1) = b.take j ++ [y] := by rw [List.take_add_one, h]; rfl
  rw [e, lev_snoc]
  by_cases q : x = y
  · subst q; rfl
  · rw [if_neg q, if_neg (fun z => q z.symm)]
/-- none of a longer one's row is below all of the shorter one's -/
theorem row_down {p b : List Nat} {x : Nat} : ∀ (j : Nat), j ≤ b.length → ∃ k, k ≤ b.length ∧ lev p (b.take k) ≤ lev (p ++ [x]) (b.take j)
  | 0, _ => ⟨0, by omega, by rw [List.take_zero, lev_nil_right, lev_nil_right, List.length_append]; omega⟩
  | j + 1, h => by
    have hj : b[j]? = some b[j] := List.getElem?_eq_getElem (by omega)
    rw [lev_take hj]
    obtain ⟨k, h1, h2⟩ := row_down (p := p) (b := b) (x := x) j (by omega)
    rcases Nat.le_total (lev p (b.take j) + if b[j] = x then 0 else 1) (min (lev p (b.take (j + 1)) + 1) (lev (p ++ [x]) (b.take j) + 1)) with q | q
    · rw [Nat.min_eq_left q]; exact ⟨j, by omega, by omega⟩
    · rw [Nat.min_eq_right q]
      rcases Nat.le_total (lev p (b.take (j + 1)) + 1) (lev (p ++ [x]) (b.take j) + 1) with q | q
      · rw [Nat.min_eq_left q]; exact ⟨j + 1, h, by omega⟩
      · rw [Nat.min_eq_right q]; exact ⟨k, h1, by omega⟩
/-- some beginning of b is no farther from p than m -/
def Nearb (m : Nat) (p b : List Nat) : Prop := ∃ j, j ≤ b.length ∧ lev p (b.take j) ≤ m
theorem Nearb.up {m : Nat} {p b : List Nat} {x : Nat} (h : Nearb m (p ++ [x]) b) : Nearb m p b := by
  obtain ⟨j, h1, h2⟩ := h
  obtain ⟨k, h3, h4⟩ := row_down (p := p) (x := x) j h1
  exact ⟨k, h3, by omega⟩
end Lv

/-! B0: a def of the text, by its name; calls by name; the steps of a reading. -/
namespace N0
open PySem PySem.Spec PyProof.Rows L2

/-- where the def st stands -/
structure At (K : PySem.W.Frag) (mg : Str → Option Value) (x : Str) (st : Stmt) : Prop where
  ex : ∃ (f : Addr) (fd : FuncData), mg x = some (.ref f) ∧ FunD K x x (defArgs st) (defBody st) (defScope st) [] [] f fd
/-- the def called x keeps the promise sp -/
structure Dd (P : Program) (w : World) (K : PySem.W.Frag) (mg : Str → Option Value) (base : Heap) (CX : CXT) (k : Nat) (x : Str) (ps : List Str) (sp : Sp) : Prop where
  ex : ∃ (f : Addr) (fd : FuncData), mg x = some (.ref f) ∧ PySem.W.keepIn K (.ref f) = true ∧ Binds K fd ps [] ∧ FnOk P w K mg base CX k f fd ps sp ∧ ∃ oc od osl, K.lookup f = some ⟨oc, od, .func fd, osl⟩
section
variable {P : Program} {w : World} {K : PySem.W.Frag} {mg : Str → Option Value} {base : Heap} {x : Str} {st : Stmt} {N ps : List Str} {sp : Sp} {k : Nat}
/-- how the arguments of a def without defaults bind -/
def BindN (x : Str) (st : Stmt) (ps : List Str) : Prop := ∀ (kV doc pm : Value) (an : Option Addr) (cdv ct : Value) (us : List Value), us.length = ps.length →
  bindArgs (PySem.W.fnOf x x (defArgs st) (defBody st) (defScope st) .none kV doc pm an cdv ct) ⟨us, []⟩ = pure (ps.zip us)
theorem fn_there {x qual : Str} {pa : Arguments} {bd : List Stmt} {sc : Scope} {dvs : List V} {kws : List (Str × V)} {f : Addr} {fd : FuncData} (F : FunD K x qual pa bd sc dvs kws f fd) : ∃ oc od osl, K.lookup f = some ⟨oc, od, .func fd, osl⟩ := by
  obtain ⟨oc, od, _, _, _, _, _, _, _, osl, _, h, _⟩ := F.ex
  exact ⟨oc, od, osl, h⟩
theorem At.ok (A : At K mg x st) (S : FnScope N ps (defScope st)) (hb : BindN x st ps) (len : ∀ vs H Q E, sp vs H Q E → vs.length = ps.length)
    (hbody : ∀ (f : Addr) (cdv : Value) (A : Around) (outer : List Env) (s : Shared) (H : Hp) (vs : List V) (Q : VK) (E : XK), Room k (A.deeper (envOfC x (defScope st) s.heap.objs.size f cdv)) → sp vs H Q E →
      ∃ t, PSs (cxOf CX0 P w K mg base N x (defScope st) f cdv A outer s H E).nox (defBody st) t ∧ t { nx := fun _ H' => Q .non H', rt := Q } (start N vs) H) : Dd P w K mg base CX0 (k + 1) x ps sp := by
  obtain ⟨f, fd, hm, F⟩ := A.ex
  refine ⟨f, fd, hm, F.kp, F.bindsN hb, F.ok S len (fun cdv A outer s H vs Q E hr h => ?_), fn_there F⟩
  obtain ⟨t, h1, h2⟩ := hbody f cdv A outer s H vs Q E hr h
  exact ⟨t, h1.nox, h2⟩
theorem At.okX (A : At K mg x st) (S : FnScope N ps (defScope st)) (hb : BindN x st ps) (len : ∀ vs H Q E, sp vs H Q E → vs.length = ps.length)
    (hbody : ∀ (f : Addr) (cdv : Value) (A : Around) (outer : List Env) (s : Shared) (H : Hp) (vs : List V) (Q : VK) (E : XK), Room k (A.deeper (envOfC x (defScope st) s.heap.objs.size f cdv)) → sp vs H Q E →
      ∃ t, PSs (cxOf (L2.CX P w) P w K mg base N x (defScope st) f cdv A outer s H E) (defBody st) t ∧ t { nx := fun _ H' => Q .non H', rt := Q } (start N vs) H) : Dd P w K mg base (L2.CX P w) (k + 1) x ps sp := by
  obtain ⟨f, fd, hm, F⟩ := A.ex
  exact ⟨f, fd, hm, F.kp, F.bindsN hb, F.ok S len (fun cdv A outer s H vs Q E hr h => hbody f cdv A outer s H vs Q E hr h), fn_there F⟩
/-- the law's def, over each base the same function -/
theorem Dd.at {CX : CXT} {f : Addr} {fd : FuncData} (D : Dd P w K mg base CX k x ps sp) (hm : mg x = some (.ref f)) (hl : ∃ oc od osl, K.lookup f = some ⟨oc, od, .func fd, osl⟩) : FnOk P w K mg base CX k f fd ps sp := by
  obtain ⟨f1, fd1, hm1, _, _, F, oc, od, osl, e⟩ := D.ex
  rw [hm] at hm1
  injection hm1 with z
  injection z with z
  subst z
  obtain ⟨oc', od', osl', e'⟩ := hl
  rw [e] at e'
  injection e' with e'
  injection e' with _ _ e' _
  injection e' with e'
  subst e'
  exact F
end
section
variable {X : Cx} {CX : CXT} {k : Nat} {ps : List Str} {sp : Sp} {E : XK} {x : Str} {p pos : Pos} {e : Expr} {es : List Expr} {t : TA}
theorem pe_callD (D : Dd X.prog X.w X.K X.mg X.base CX k x ps sp) (hr : Room k X.A) (hg : Gl X x) (hx : Passes CX X E) (ha : PA X (e :: es) t) (hdb : (x == ("__debug__" : Str)) = false := by decide)
    (he : starEach (e :: es) X.env = (false, eval e X.env) :: starEach es X.env := by rfl) (hpl : (backTo pos (starEach es X.env)).any (·.1) = false := by rfl) :
    PE X (.Call (.Name x p) (e :: es) [] pos) (tCall sp [] E t) := by
  obtain ⟨f, fd, hm, hk, hb, F, _⟩ := D.ex
  exact pe_call F hr hg hm hk hb .nil hx ha hdb he hpl
theorem pe_callD0 (D : Dd X.prog X.w X.K X.mg X.base CX k x ps sp) (hr : Room k X.A) (hg : Gl X x) (hx : Passes CX X E) (hdb : (x == ("__debug__" : Str)) = false := by decide) :
    PE X (.Call (.Name x p) [] [] pos) (tCall sp [] E tNil) := by
  obtain ⟨f, fd, hm, hk, hb, F, _⟩ := D.ex
  exact pe_call0 F hr hg hm hk hb .nil hx hdb
theorem pe_callDS {E : L2.St → XK} (D : Dd X.prog X.w X.K X.mg X.base CX k x ps sp) (hr : Room k X.A) (hg : Gl X x) (hx : ∀ σ, PassesAt CX X σ (E σ)) (ha : PA X (e :: es) t) (hdb : (x == ("__debug__" : Str)) = false := by decide)
    (he : starEach (e :: es) X.env = (false, eval e X.env) :: starEach es X.env := by rfl) (hpl : (backTo pos (starEach es X.env)).any (·.1) = false := by rfl) :
    PE X (.Call (.Name x p) (e :: es) [] pos) (tCallS sp E t) := by
  obtain ⟨f, fd, hm, hk, hb, F, _⟩ := D.ex
  exact pe_callS F hr hg hm hk hb hx ha hdb he hpl
end
end N0

/-! B1: texts as lists of codes; kinds of things; letters and words. -/
namespace N0
open PySem PySem.Spec PyProof.Rows L2

/-! ### texts -/
/-- the text of these codes -/
def mkS (l : List Nat) : Str := ⟨l.toArray⟩
theorem mkS_of (z : Str) : z = mkS z.cps.toList := by obtain ⟨a⟩ := z; simp [mkS]
theorem mkS_cps (l : List Nat) : (mkS l).cps.toList = l := by simp [mkS]
theorem mkS_len (l : List Nat) : (mkS l).length = l.length := by simp [mkS, Str.length]
theorem mkS_inj {l m : List Nat} : mkS l = mkS m ↔ l = m := by
  constructor
  · intro h
    have := congrArg (fun z : Str => z.cps.toList) h
    simpa [mkS] using this
  · intro h; rw [h]
theorem mkS_app (l m : List Nat) : mkS l ++ mkS m = mkS (l ++ m) := by
  show Str.append (mkS l) (mkS m) = mkS (l ++ m)
  simp [Str.append, mkS]
theorem mkS_dec (l m : List Nat) : decide (V.str (mkS l) = V.str (mkS m)) = decide (l = m) := by
  rw [Bool.eq_iff_iff, decide_eq_true_iff, decide_eq_true_iff]
  constructor
  · intro h; injection h with h; exact mkS_inj.mp h
  · intro h; rw [h]
theorem sIx_some {n d : Nat} {i : Int} (h0 : 0 ≤ i) : HT.sIx n d (some i) = min i.toNat n := by
  obtain ⟨k, rfl⟩ := Int.eq_ofNat_of_zero_le h0
  simp [HT.sIx_nat]
theorem cut_to {l : List Nat} {i : Int} (h0 : 0 ≤ i) : cutS (mkS l) none (some i) = mkS (l.take i.toNat) := by
  show (⟨_⟩ : Str) = ⟨_⟩
  rw [mkS_cps, mkS_len, sIx_some h0]
  show (⟨((l.drop 0).take (min i.toNat l.length - 0)).toArray⟩ : Str) = ⟨(l.take i.toNat).toArray⟩
  rw [List.drop_zero, Nat.sub_zero]
  congr 2
  rcases Nat.le_total i.toNat l.length with h | h
  · rw [Nat.min_eq_left h]
  · rw [Nat.min_eq_right h, List.take_of_length_le h, List.take_of_length_le (Nat.le_refl _)]
theorem cut_from {l : List Nat} {i : Int} (h0 : 0 ≤ i) : cutS (mkS l) (some i) none = mkS (l.drop i.toNat) := by
  show (⟨_⟩ : Str) = ⟨_⟩
  rw [mkS_cps, mkS_len, sIx_some h0]
  show (⟨((l.drop (min i.toNat l.length)).take (l.length - min i.toNat l.length)).toArray⟩ : Str) = ⟨(l.drop i.toNat).toArray⟩
  congr 2
  rcases Nat.le_total i.toNat l.length with h | h
  · rw [Nat.min_eq_left h]
    exact List.take_of_length_le (by rw [List.length_drop]; omega)
  · rw [Nat.min_eq_right h, List.drop_of_length_le (Nat.le_refl _), List.drop_of_length_le h]
    simp
theorem str1 (c : Nat) : (⟨#[c]⟩ : Str) = mkS [c] := rfl
theorem small_line {n : Nat} (h : n ≤ 100000) : n ≤ sizeLine := Nat.le_trans h (by decide)
/-- a letter from a to z -/
def Lc (c : Nat) : Prop := 97 ≤ c ∧ c ≤ 122
instance (c : Nat) : Decidable (Lc c) := inferInstanceAs (Decidable (97 ≤ c ∧ c ≤ 122))
def Wd (l : List Nat) : Prop := ∀ c ∈ l, Lc c
theorem Wd.nil : Wd [] := fun _ h => nomatch h
theorem Wd.app {l m : List Nat} (h : Wd l) (k : Wd m) : Wd (l ++ m) := fun c hc => (List.mem_append.mp hc).elim (h c) (k c)
theorem Wd.take {l : List Nat} (h : Wd l) (n : Nat) : Wd (l.take n) := fun c hc => h c (List.mem_of_mem_take hc)
theorem Wd.drop {l : List Nat} (h : Wd l) (n : Nat) : Wd (l.drop n) := fun c hc => h c (List.mem_of_mem_drop hc)
theorem Wd.one {c : Nat} (h : Lc c) : Wd [c] := fun d hd => by rw [List.mem_singleton.mp hd]; exact h
def alpha : List Nat := [97, 98, 99, 100, 101, 102, 103, 104, 105, 106, 107, 108, 109, 110, 111, 112, 113, 114, 115, 116, 117, 118, 119, 120, 121, 122]
theorem alpha_str : ("abcdefghijklmnopqrstuvwxyz" : Str) = mkS alpha := by decide +kernel
theorem alpha_mem (c : Nat) : c ∈ alpha ↔ Lc c := by
  unfold alpha Lc
  simp only [List.mem_cons, List.not_mem_nil, or_false]
  omega
theorem alpha_at {i : Int} (h0 : 0 ≤ i) (h1 : i < 26) : ∃ c, atI alpha i = some c ∧ Lc c := by
  obtain ⟨k, rfl⟩ := Int.eq_ofNat_of_zero_le h0
  have hk : k < alpha.length := by show k < 26; omega
  exact ⟨alpha[k], atI_nat (List.getElem?_eq_getElem hk), (alpha_mem _).mp (List.getElem_mem hk)⟩

/-! ### kinds -/
/-- a thing of a built-in kind -/
inductive Kn (H : Hp) : V → String → Prop where
  | non : Kn H .non "NoneType"
  | bl (b : Bool) : Kn H (.bl b) "bool"
  | int (i : Int) : Kn H (.int i) "int"
  | str (z : Str) : Kn H (.str z) "str"
  | lst {a : Addr} {xs : List V} (e : H a = some (.lst xs)) : Kn H (.ref a) "list"
  | tup {a : Addr} {xs : List V} (e : H a = some (.tup xs)) : Kn H (.ref a) "tuple"
  | dK {a : Addr} {kvs : List (Key × V)} (e : H a = some (.dK kvs)) : Kn H (.ref a) "dict"
theorem Kn.same {H H' : Hp} {x : V} {T : String} (k : Kn H x T) (s : Same H H') : Kn H' x T := by
  cases k with
  | non => exact .non
  | bl b => exact .bl b
  | int i => exact .int i
  | str z => exact .str z
  | lst e => exact .lst (s _ _ e)
  | tup e => exact .tup (s _ _ e)
  | dK e => exact .dK (s _ _ e)
theorem Kn.ty {K : PySem.W.Frag} {H : Hp} {x : V} {T : String} (k : Kn H x T) : TyX K H x (.type T) := by
  cases k with
  | non => exact .base .non
  | bl b => exact .base (.bl b)
  | int i => exact .base (.int i)
  | str z => exact .base (.str z)
  | lst e => exact .base (.lst e)
  | tup e => exact .base (.tup e)
  | dK e => exact .base (.dK e)
def isK (T U : String) : Bool := decide (T = U) || (decide (T = "bool") && decide (U = "int"))
theorem Kn.is {K : PySem.W.Frag} {H : Hp} {x : V} {T : String} (k : Kn H x T) : ∀ U ∈ ["int", "bool", "str", "list", "tuple"], PySem.W.kitOne K (.type T) (.type U) = some (isK T U) := by
  intro U hU
  refine kit_ty ?_
  simp only [List.mem_cons, List.not_mem_nil, or_false] at hU
  cases k <;> rcases hU with rfl | rfl | rfl | rfl | rfl <;> decide +kernel
/-- isinstance(x, U), U one of five kinds -/
def rIsK : List V → Hp → VK → Prop := fun xs H Q => ∃ (x : V) (T U : String), xs = [x, .ty U] ∧ U ∈ ["int", "bool", "str", "list", "tuple"] ∧ Kn H x T ∧ Q (.bl (isK T U)) H
theorem call_isK {X : Cx} : CallR X (.builtin "isinstance") rIsK := by
  intro pins s σ H xs us Q I r h
  obtain ⟨x, T, U, rfl, hU, k, q⟩ := h
  exact call_isi pins s σ H _ us Q I r ⟨x, .ty U, .type T, .type U, isK T U, rfl, .ty U, k.ty, k.is U hU, q⟩
theorem Kn.fun {H : Hp} {x : V} {T T' : String} (k : Kn H x T) (k' : Kn H x T') : T = T' := by
  cases k with
  | non => cases k'; rfl
  | bl b => cases k'; rfl
  | int i => cases k'; rfl
  | str z => cases k'; rfl
  | lst e =>
    cases k' with
    | lst _ => rfl
    | tup e' => rw [e] at e'; cases e'
    | dK e' => rw [e] at e'; cases e'
  | tup e =>
    cases k' with
    | lst e' => rw [e] at e'; cases e'
    | tup _ => rfl
    | dK e' => rw [e] at e'; cases e'
  | dK e =>
    cases k' with
    | lst e' => rw [e] at e'; cases e'
    | tup e' => rw [e] at e'; cases e'
    | dK _ => rfl
end N0

/-! B2: the steps of a reading, one lemma a shape. -/
namespace N0
open PySem PySem.Spec PyProof.Rows L2
/-! the library's readings by names of our own -/
def qAddS : R2 := fun x y H Q => ∃ i j, x = .str i ∧ y = .str j ∧ i.length + j.length ≤ sizeLine ∧ Q (.str (i ++ j)) H
theorem o_addS {X : Cx} : OpR X (binaryOp .Add) qAddS := op_add_str
def qLenS : List V → Hp → VK → Prop := fun xs H Q => ∃ z, xs = [.str z] ∧ z.length ≤ sizeLine ∧ Q (.int z.length) H
theorem c_lenS {X : Cx} : CallR X (.builtin "len") qLenS := call_len_str
def qLenL (K : PySem.W.Frag) : List V → Hp → VK → Prop := fun xs H Q => ∃ p ys, xs = [.ref p] ∧ (SqL K H p ys ∨ SqT K H p ys) ∧ Q (.int ys.length) H
theorem c_lenL {X : Cx} : CallR X (.builtin "len") (qLenL X.K) := call_len_seq
def qInS : R2 := fun x y H Q => ∃ (c : Nat) (z : Str), x = .str ⟨#[c]⟩ ∧ y = .str z ∧ Q (.bl (decide (c ∈ z.cps.toList))) H
theorem o_inS {X : Cx} : OpR X (compareOp .In) qInS := op_in_sign
def qNotInS : R2 := fun x y H Q => ∃ (c : Nat) (z : Str), x = .str ⟨#[c]⟩ ∧ y = .str z ∧ Q (.bl (!decide (c ∈ z.cps.toList))) H
theorem o_notInS {X : Cx} : OpR X (compareOp .NotIn) qNotInS := op_notIn_sign
def qIsN : R2 := fun x y H Q => y = .non ∧ Q (.bl (decide (x = .non))) H
theorem o_isN {X : Cx} : OpR X (compareOp .Is) qIsN := op_isN
def qNotN : R2 := fun x y H Q => y = .non ∧ Q (.bl (!decide (x = .non))) H
theorem o_notN {X : Cx} : OpR X (compareOp .IsNot) qNotN := op_notN
section
variable {σ : L2.St} {H : Hp} {D : Ends} {Q : VK} {QB : Bool → Hp → Prop} {QA : List V → Hp → Prop} {QO : Option Int → Hp → Prop} {ta tb te : TE} {t u c : TT} {t1 t2 : TS} {tr : TA} {r r' : R2} {v x y : V} {i : Nat} {K : PySem.W.Frag}
theorem g_start {N : List Str} {vs : List V} {σ0 : L2.St} (e : L2.start N vs = σ0) (h : t1 D σ0 H) : t1 D (L2.start N vs) H := e ▸ h
theorem g_if {c A B : Prop} [Decidable c] (h1 : c → A) (h2 : ¬ c → B) : if decide c = true then A else B := by
  by_cases h : c
  · rw [decide_eq_true h]; exact h1 h
  · rw [decide_eq_false h]; exact h2 h
theorem g_ifN {c A B : Prop} [Decidable c] (h1 : ¬ c → A) (h2 : c → B) : if (!decide c) = true then A else B := by
  by_cases h : c
  · rw [decide_eq_true h]; exact h2 h
  · rw [decide_eq_false h]; exact h1 h
theorem g_ifB {b : Bool} {A B : Prop} (h1 : b = true → A) (h2 : b = false → B) : if b = true then A else B := by
  cases b with
  | true => exact h1 rfl
  | false => exact h2 rfl
theorem g_ifT {A B : Prop} (h : A) : if true = true then A else B := h
theorem g_ifF {A B : Prop} (h : B) : if false = true then A else B := h
theorem g_ifNT {A B : Prop} (h : B) : if (!true) = true then A else B := h
theorem g_ifNF {A B : Prop} (h : A) : if (!false) = true then A else B := h
theorem at_ofN {α : Type} {xs : List α} {i : Int} {v : α} (h0 : 0 ≤ i) (h : xs[i.toNat]? = some v) : atI xs i = some v := by
  obtain ⟨k, rfl⟩ := Int.eq_ofNat_of_zero_le h0
  exact atI_nat (by simpa using h)
theorem menuI (ns : List Int) {i : Int} (h0 : 0 ≤ i) (h1 : i < ns.length) : ∃ n, n ∈ ns ∧ atI (ns.map V.int) i = some (V.int n) := by
  obtain ⟨k, rfl⟩ := Int.eq_ofNat_of_zero_le h0
  have hk : k < ns.length := by omega
  exact ⟨ns[k], List.getElem_mem hk, atI_nat (by rw [List.getElem?_map, List.getElem?_eq_getElem hk]; rfl)⟩
theorem menuV (xs : List V) {i : Int} (h0 : 0 ≤ i) (h1 : i < xs.length) : ∃ v, v ∈ xs ∧ atI xs i = some v := by
  obtain ⟨k, rfl⟩ := Int.eq_ofNat_of_zero_le h0
  have hk : k < xs.length := by omega
  exact ⟨xs[k], List.getElem_mem hk, atI_nat (List.getElem?_eq_getElem hk)⟩
theorem g_seq {nx bk ct : L2.St → Hp → Prop} {rt : VK} (h : t1 (Ends.mk (t2 (Ends.mk nx rt bk ct)) rt bk ct) σ H) : tSeq t1 t2 (Ends.mk nx rt bk ct) σ H := h
theorem g_cut {nx bk ct : L2.St → Hp → Prop} {rt : VK} (Mid : L2.St → Hp → Prop) (h : t1 (Ends.mk Mid rt bk ct) σ H) (k : ∀ σ' H', Mid σ' H' → t2 (Ends.mk nx rt bk ct) σ' H') : Evl.tCut t1 t2 (Ends.mk nx rt bk ct) σ H := ⟨Mid, h, k⟩
theorem g_set {nx bk ct : L2.St → Hp → Prop} {rt : VK} (h : te σ H (fun x H1 => nx (σ.set i (some x)) H1)) : tAsg te (gName i) (Ends.mk nx rt bk ct) σ H := h
theorem g_ret {nx bk ct : L2.St → Hp → Prop} {rt : VK} (h : te σ H rt) : tRet te (Ends.mk nx rt bk ct) σ H := h
theorem g_retN {nx bk ct : L2.St → Hp → Prop} {rt : VK} (h : rt .non H) : tRetN (Ends.mk nx rt bk ct) σ H := h
theorem g_drop {nx bk ct : L2.St → Hp → Prop} {rt : VK} (h : te σ H fun _ H1 => nx σ H1) : tDrop te (Ends.mk nx rt bk ct) σ H := h
theorem g_ifS (h : c σ H fun b H1 => if b = true then t1 D σ H1 else t2 D σ H1) : tIfS c t1 t2 D σ H := h
theorem g_next {nx bk ct : L2.St → Hp → Prop} {rt : VK} (h : nx σ H) : tNext (Ends.mk nx rt bk ct) σ H := h
theorem g_brk {nx bk ct : L2.St → Hp → Prop} {rt : VK} (h : bk σ H) : tBreak (Ends.mk nx rt bk ct) σ H := h
theorem g_cont {nx bk ct : L2.St → Hp → Prop} {rt : VK} (h : ct σ H) : tCont (Ends.mk nx rt bk ct) σ H := h
theorem g_var (h : σ[i]? = some (some v)) (q : Q v H) : tVar i σ H Q := ⟨v, h, q⟩
theorem g_cA (q : Q (.str (mkS alpha)) H) : tC (.str (Str.ofString "abcdefghijklmnopqrstuvwxyz")) σ H Q := by
  show Q (.str (Str.ofString "abcdefghijklmnopqrstuvwxyz")) H
  rw [alpha_str]; exact q
theorem g_cM {l : List Nat} (q : Q (.str (mkS l)) H) : tC (.str (mkS l)) σ H Q := q
theorem g_cS {z : Str} (q : Q (.str (mkS z.cps.toList)) H) : tC (.str z) σ H Q := by
  rw [← mkS_of z] at q; exact q
theorem g_c (q : Q v H) : tC v σ H Q := q
theorem g_op (h : ta σ H fun x H1 => tb σ H1 fun y H2 => r x y H2 Q) : tOp r ta tb σ H Q := h
theorem g_un {r : V → Hp → VK → Prop} (h : ta σ H fun x H1 => r x H1 Q) : tUn r ta σ H Q := h
theorem g_I0 {g : Int → Int → V} {a b : Int} (q : Q (g a b) H) : rI0 g (.int a) (.int b) H Q := ⟨a, b, rfl, rfl, q⟩
theorem g_I {C : Int → Int → Prop} {g : Int → Int → V} {a b : Int} (hc : C a b) (q : Q (g a b) H) : rI C g (.int a) (.int b) H Q := ⟨a, b, rfl, rfl, hc, q⟩
theorem g_U {g : Int → V} {a : Int} (q : Q (g a) H) : rU g (.int a) H Q := ⟨a, rfl, q⟩
theorem g_eqI {a b : Int} (q : Q (.bl (decide (a = b))) H) : rEq (.int a) (.int b) H Q := ⟨rfl, by
  have e : decide (V.int a = V.int b) = decide (a = b) := by simp
  rw [e]; exact q⟩
theorem g_neI {a b : Int} (q : Q (.bl (!decide (a = b))) H) : rNe (.int a) (.int b) H Q := ⟨rfl, by
  have e : decide (V.int a = V.int b) = decide (a = b) := by simp
  rw [e]; exact q⟩
theorem g_eqB {a b : Bool} (q : Q (.bl (decide (a = b))) H) : rEq (.bl a) (.bl b) H Q := ⟨rfl, by
  have e : decide (V.bl a = V.bl b) = decide (a = b) := by simp
  rw [e]; exact q⟩
theorem g_neB {a b : Bool} (q : Q (.bl (!decide (a = b))) H) : rNe (.bl a) (.bl b) H Q := ⟨rfl, by
  have e : decide (V.bl a = V.bl b) = decide (a = b) := by simp
  rw [e]; exact q⟩
theorem g_eqS {a b : List Nat} (q : Q (.bl (decide (a = b))) H) : rEq (.str (mkS a)) (.str (mkS b)) H Q := ⟨rfl, by rw [mkS_dec]; exact q⟩
theorem g_neS {a b : List Nat} (q : Q (.bl (!decide (a = b))) H) : rNe (.str (mkS a)) (.str (mkS b)) H Q := ⟨rfl, by rw [mkS_dec]; exact q⟩
theorem g_test (h : te σ H fun x H' => ∃ k, x = .bl k ∧ QB k H') : tTest te σ H QB := h
theorem g_B (h : te σ H fun x H' => ∃ k, x = .bl k ∧ QB k H') : tB te σ H QB := h
theorem g_bl {b : Bool} {q : Bool → Prop} (h : q b) : ∃ k, V.bl b = V.bl k ∧ q k := ⟨b, rfl, h⟩
theorem g_and (h : t σ H fun c H1 => if c = true then u σ H1 QB else QB false H1) : tAnd t u σ H QB := h
theorem g_or (h : t σ H fun c H1 => if c = true then QB true H1 else u σ H1 QB) : tOr t u σ H QB := h
theorem g_not (h : t σ H fun c H1 => QB (!c) H1) : tNot t σ H QB := h
theorem g_andV (h : ta σ H fun x H1 => ∃ c, x = .bl c ∧ if c = true then tb σ H1 Q else Q (.bl false) H1) : tAndV ta tb σ H Q := h
theorem g_orV (h : ta σ H fun x H1 => ∃ c, x = .bl c ∧ if c = true then Q (.bl true) H1 else tb σ H1 Q) : tOrV ta tb σ H Q := h
theorem g_notV (h : ta σ H fun x H1 => ∃ c, x = .bl c ∧ Q (.bl (!c)) H1) : tNotV ta σ H Q := h
theorem g_ifE (h : t σ H fun c H1 => if c = true then ta σ H1 Q else tb σ H1 Q) : tIf t ta tb σ H Q := h
theorem g_chain {tc : TE} (h : ta σ H fun x H1 => tb σ H1 fun y H2 => r x y H2 fun z H3 => ∃ k, z = .bl k ∧ (if k = true then tc σ H3 fun w' H4 => r' y w' H4 Q else Q (.bl false) H3)) : tChain r r' ta tb tc σ H Q := h
theorem g_nil (q : QA [] H) : tNil σ H QA := q
theorem g_cons (h : te σ H fun x H1 => tr σ H1 fun xs H2 => QA (x :: xs) H2) : tCons te tr σ H QA := h
theorem g_CB {r : List V → Hp → VK → Prop} (h : tr σ H fun vs H1 => r vs H1 Q) : tCB r tr σ H Q := h
theorem g_call {sp : Sp} {E : XK} (h : tr σ H fun vs H1 => sp vs H1 Q E) : tCall sp [] E tr σ H Q := by
  have e : (fun vs H1 => sp (vs ++ []) H1 Q E) = fun vs H1 => sp vs H1 Q E := by funext vs H1; rw [List.append_nil]
  show tr σ H fun vs H1 => sp (vs ++ []) H1 Q E
  rw [e]; exact h
theorem g_callS {sp : Sp} {E : L2.St → XK} (h : tr σ H fun vs H1 => sp vs H1 Q (E σ)) : tCallS sp E tr σ H Q := h
theorem g_noPart (q : QO none H) : tNoPart σ H QO := q
theorem g_part (h : te σ H fun x H1 => ∃ i, x = .int i ∧ QO (some i) H1) : tPart te σ H QO := h
theorem g_int {a : Int} {q : Int → Prop} (h : q a) : ∃ i, V.int a = .int i ∧ q i := ⟨a, rfl, h⟩
theorem g_Sl {r : V → Option Int → Option Int → Hp → VK → Prop} {tl th : TO} (h : te σ H fun x H1 => tl σ H1 fun l H2 => th σ H2 fun u H3 => r x l u H3 Q) : tSl r te tl th σ H Q := h
theorem g_SlS {l : List Nat} {lo hi : Option Int} (hl : l.length ≤ 100000) (q : Q (.str (cutS (mkS l) lo hi)) H) : rSlS (.str (mkS l)) lo hi H Q := ⟨_, rfl, by rw [mkS_len]; exact small_line hl, q⟩
theorem g_SlTo {l : List Nat} {i : Int} (h0 : 0 ≤ i) (hl : l.length ≤ 100000) (q : Q (.str (mkS (l.take i.toNat))) H) : rSlS (.str (mkS l)) none (some i) H Q := g_SlS hl (by rw [cut_to h0]; exact q)
theorem g_SlFrom {l : List Nat} {i : Int} (h0 : 0 ≤ i) (hl : l.length ≤ 100000) (q : Q (.str (mkS (l.drop i.toNat))) H) : rSlS (.str (mkS l)) (some i) none H Q := g_SlS hl (by rw [cut_from h0]; exact q)
theorem g_tup (h : tr σ H fun xs H1 => xs.length ≤ sizeLine ∧ ∀ p, H1 p = none → Q (.ref p) (upd H1 p (.tup xs))) : tTup tr σ H Q := h
theorem g_lst (h : tr σ H fun xs H1 => xs.length ≤ sizeLine ∧ ∀ p, H1 p = none → Q (.ref p) (upd H1 p (.lst xs))) : tLst tr σ H Q := h
theorem g_new {n : Nat} {A : Prop} (hn : n ≤ 100000) (h : A) : n ≤ sizeLine ∧ A := ⟨small_line hn, h⟩
/-- texts: +, len, an index, a sign within -/
theorem g_addS {a b : List Nat} (hl : a.length + b.length ≤ 100000) (q : Q (.str (mkS (a ++ b))) H) : qAddS (.str (mkS a)) (.str (mkS b)) H Q :=
  ⟨_, _, rfl, rfl, by rw [mkS_len, mkS_len]; exact small_line hl, by rw [mkS_app]; exact q⟩
theorem g_lenS {a : List Nat} (hl : a.length ≤ 100000) (q : Q (.int (a.length : Int)) H) : qLenS [V.str (mkS a)] H Q :=
  ⟨_, rfl, by rw [mkS_len]; exact small_line hl, by rw [mkS_len]; exact q⟩
theorem g_ixS {a : List Nat} {j : Int} {c : Nat} (hl : a.length ≤ 100000) (h : atI a j = some c) (q : Q (.str (mkS [c])) H) : rIxS (.str (mkS a)) (.int j) H Q :=
  ⟨_, _, c, rfl, rfl, by rw [mkS_len]; exact small_line hl, by rw [mkS_cps]; exact h, q⟩
theorem g_inS {a : List Nat} {c : Nat} (q : Q (.bl (decide (c ∈ a))) H) : qInS (.str (mkS [c])) (.str (mkS a)) H Q :=
  ⟨c, _, rfl, rfl, by rw [mkS_cps]; exact q⟩
theorem g_notInS {a : List Nat} {c : Nat} (q : Q (.bl (!decide (c ∈ a))) H) : qNotInS (.str (mkS [c])) (.str (mkS a)) H Q :=
  ⟨c, _, rfl, rfl, by rw [mkS_cps]; exact q⟩
theorem g_isN (q : Q (.bl (decide (x = .non))) H) : qIsN x .non H Q := ⟨rfl, q⟩
theorem g_notN (q : Q (.bl (!decide (x = .non))) H) : qNotN x .non H Q := ⟨rfl, q⟩
theorem g_isKb {T U : String} {b : Bool} (k : Kn H x T) (hU : U ∈ ["int", "bool", "str", "list", "tuple"]) (hb : isK T U = b) (q : Q (.bl b) H) : rIsK [x, .ty U] H Q := ⟨x, T, U, rfl, hU, k, by rw [hb]; exact q⟩
theorem g_lenL {p : Addr} {ys : List V} (h : SqL K H p ys ∨ SqT K H p ys) (q : Q (.int ys.length) H) : qLenL K [.ref p] H Q := ⟨p, ys, rfl, h, q⟩
theorem g_isK {T U : String} (k : Kn H x T) (hU : U ∈ ["int", "bool", "str", "list", "tuple"]) (q : Q (.bl (isK T U)) H) : rIsK [x, .ty U] H Q := ⟨x, T, U, rfl, hU, k, q⟩
theorem g_ixL {p : Addr} {ys : List V} {j : Int} (h : SqL K H p ys) (ha : atI ys j = some v) (q : Q v H) : rIxL K (.ref p) (.int j) H Q := ⟨p, ys, j, v, rfl, rfl, h, ha, q⟩
theorem g_ixT {p : Addr} {ys : List V} {j : Int} (h : SqT K H p ys) (ha : atI ys j = some v) (q : Q v H) : rIxT K (.ref p) (.int j) H Q := ⟨p, ys, j, v, rfl, rfl, h, ha, q⟩
end
end N0

/-! B3: == and != of any thing of a kind with a text. -/
namespace N0
open PySem PySem.Spec PyProof.Rows L2
open AutoSeq1 (wpAny_loadPart')
open MeetsSeq SeqAt
/-- a dict's object -/
def DObj (h : Heap) (l : Addr) : Prop := ∃ (es : Array DictEntry) (n : Nat) (sl : Array (Option Value)), h.get? l = some { cls := .type "dict", dict := none, data := .dict es n, slots := sl }
theorem deq_no (l : Addr) (b : Str) (u : Tok) : Meets (Builtin.«dict.__eq__» ⟨[.ref l, .str b u], []⟩) (fun _ R s => DObj s.heap l ∧ R (.ok (.ret .notImplemented)) s) :=
  .of_wp fun prog w A R s h => by
    obtain ⟨hp, g, d, tk, os⟩ := s
    obtain ⟨⟨es, n, sl, hl⟩, h⟩ := h
    have f1 := PySem.F.sub_str_dict
    wp_walk using wpAny_loadPart' hl
    exact ⟨_, rfl, h⟩
theorem dne_no (l : Addr) (b : Str) (u : Tok) : Meets (Builtin.«dict.__ne__» ⟨[.ref l, .str b u], []⟩) (fun _ R s => DObj s.heap l ∧ R (.ok (.ret .notImplemented)) s) :=
  .of_wp fun prog w A R s h => by
    obtain ⟨hp, g, d, tk, os⟩ := s
    obtain ⟨⟨es, n, sl, hl⟩, h⟩ := h
    have f1 := PySem.F.sub_str_dict
    wp_walk using wpAny_loadPart' hl
    exact ⟨_, rfl, h⟩
theorem seq_no (l : Addr) (b : Str) (u : Tok) : Meets (Builtin.«str.__eq__» ⟨[.str b u, .ref l], []⟩) (fun _ R s => DObj s.heap l ∧ R (.ok (.ret .notImplemented)) s) :=
  .of_wp fun prog w A R s h => by
    obtain ⟨hp, g, d, tk, os⟩ := s
    obtain ⟨⟨es, n, sl, hl⟩, h⟩ := h
    wp_walk using wpAny_loadPart' hl, wpAny_load hl
    exact ⟨_, rfl, h⟩
theorem sne_no (l : Addr) (b : Str) (u : Tok) : Meets (Builtin.«str.__ne__» ⟨[.str b u, .ref l], []⟩) (fun _ R s => DObj s.heap l ∧ R (.ok (.ret .notImplemented)) s) :=
  .of_wp fun prog w A R s h => by
    obtain ⟨hp, g, d, tk, os⟩ := s
    obtain ⟨⟨es, n, sl, hl⟩, h⟩ := h
    wp_walk using wpAny_loadPart' hl, wpAny_load hl
    exact ⟨_, rfl, h⟩
theorem dobj_ty {s : Shared} {l : Addr} (h : DObj s.heap l) : s.TypeIs (.ref l) "dict" := by
  obtain ⟨es, n, sl, e⟩ := h
  exact ⟨_, e, rfl⟩
theorem rc_dict {A : Around} {s : Shared} {l : Addr} (b : Str) (u : Tok) (hd : DObj s.heap l) (hu : A.units < cLine) : RcAt A s (.ref l) (.str b u) false := fun prog w E Q h =>
  rc_eq_decline_or (k := false) (dobj_ty hd) (typeIs_str s b u) (by decide) PySem.F.sub_str_dict PySem.F.slot_dict_eq PySem.F.slot_str_eq_refl
    (fun _ hq => call_meets PySem.F.slot_dict_eq (dobj_ty hd) PySem.F.entry_dict_eq (PySem.F.args_dict_eq_2 _ _) (deq_no l b u) ⟨hd, hq⟩)
    (fun _ hq => call_meets PySem.F.slot_str_eq_refl (typeIs_str s b u) PySem.F.entry_str_eq (PySem.F.args_str_eq_2 _ _) (seq_no l b u) ⟨hd, hq⟩)
    (fun _ hq => wpAny_of_eq (rfl : isSame (.ref l) (.str b u) = pure false) hq) (.inr hu) h
theorem rcn_dict {A : Around} {s : Shared} {l : Addr} (b : Str) (u : Tok) (hd : DObj s.heap l) (hu : A.units < cLine) : RcNeAt A s (.ref l) (.str b u) true := fun prog w E Q h =>
  rc_ne_decline_or (k := false) (dobj_ty hd) (typeIs_str s b u) (by decide) PySem.F.sub_str_dict PySem.F.slot_dict_ne PySem.F.slot_str_ne_refl
    (fun _ hq => call_meets PySem.F.slot_dict_ne (dobj_ty hd) PySem.F.entry_dict_ne (PySem.F.args_dict_ne_2 _ _) (dne_no l b u) ⟨hd, hq⟩)
    (fun _ hq => call_meets PySem.F.slot_str_ne_refl (typeIs_str s b u) PySem.F.entry_str_ne (PySem.F.args_str_ne_2 _ _) (sne_no l b u) ⟨hd, hq⟩)
    (fun _ hq => wpAny_of_eq (rfl : isSame (.ref l) (.str b u) = pure false) hq) (.inr hu) h
theorem dK_obj {X : Cx} {pins : List (Addr × Obj)} {σ : L2.St} {H : Hp} {s : Shared} {a : Addr} {kvs : List (Key × V)} (I : Inv X pins σ H s) (e : H a = some (.dK kvs)) : ∃ o es n, s.heap.get? a = some o ∧ o.ExactDict ∧ o.data = .dict es n := by
  obtain ⟨_, _, vs, _, o, es, ep, h1, h2, h3, _⟩ := I.hok a _ e
  exact ⟨o, es, ep, h1, h2, h3⟩
def qEqK : R2 := fun x y H Q => ∃ T z, Kn H x T ∧ y = .str z ∧ Q (.bl (decide (x = .str z))) H
def qNeK : R2 := fun x y H Q => ∃ T z, Kn H x T ∧ y = .str z ∧ Q (.bl (!decide (x = .str z))) H
section
variable {X : Cx}
theorem o_eqK (hu : X.A.units + 1 < cLine) : OpR X (compareOp .Eq) qEqK := by
  intro pins s σ H x y v u Q I rx ry h
  obtain ⟨T, z, k, rfl, q⟩ := h
  have hu' : X.A.units < cLine := by omega
  have ref : ∀ {a : Addr} (ea : x = .ref a), (∀ t, RcAt X.A s (.ref a) (.str z t) false) → wpAny (model X.prog X.w) X.A (compareOp .Eq v u) (EP X pins σ Q) X.xe s := by
    intro a ea hr
    subst ea
    cases rx
    obtain ⟨t, rfl⟩ := ry
    have e : decide (V.ref a = V.str z) = false := decide_eq_false nofun
    rw [e] at q
    exact hr t X.prog X.w _ _ ⟨.bl _, H, I, rfl, q⟩
  cases k with
  | lst e =>
    obtain ⟨its, rv, p, _⟩ := I.list (SqL.of e)
    exact ref rfl fun t => RcAt.list_str z t p.isList hu'
  | tup e =>
    obtain ⟨its, rv, p, _⟩ := I.tuple (SqT.of e)
    exact ref rfl fun t => RcAt.tuple_str z t p hu'
  | dK e =>
    obtain ⟨o, es, n, h1, h2, h3⟩ := dK_obj I e
    refine ref rfl fun t => rc_dict z t ?_ hu'
    obtain ⟨c1, c2, c3⟩ := h2
    obtain ⟨oc, od, dt, sl⟩ := o
    dsimp only at c1 c2 h3
    subst c1 c2 h3
    exact ⟨_, _, _, h1⟩
  | non => exact op_eq pins s σ H _ _ v u Q I rx ry ⟨rfl, q⟩
  | bl b => exact op_eq pins s σ H _ _ v u Q I rx ry ⟨rfl, q⟩
  | int i => exact op_eq pins s σ H _ _ v u Q I rx ry ⟨rfl, q⟩
  | str w => exact op_eq pins s σ H _ _ v u Q I rx ry ⟨rfl, q⟩
theorem o_neK (hu : X.A.units + 1 < cLine) : OpR X (compareOp .NotEq) qNeK := by
  intro pins s σ H x y v u Q I rx ry h
  obtain ⟨T, z, k, rfl, q⟩ := h
  have hu' : X.A.units < cLine := by omega
  have ref : ∀ {a : Addr} (ea : x = .ref a), (∀ t, RcNeAt X.A s (.ref a) (.str z t) true) → wpAny (model X.prog X.w) X.A (compareOp .NotEq v u) (EP X pins σ Q) X.xe s := by
    intro a ea hr
    subst ea
    cases rx
    obtain ⟨t, rfl⟩ := ry
    have e : decide (V.ref a = V.str z) = false := decide_eq_false nofun
    rw [e] at q
    exact hr t X.prog X.w _ _ ⟨.bl _, H, I, rfl, q⟩
  cases k with
  | lst e =>
    obtain ⟨its, rv, p, _⟩ := I.list (SqL.of e)
    exact ref rfl fun t => RcNeAt.list_str z t p.isList hu'
  | tup e =>
    obtain ⟨its, rv, p, _⟩ := I.tuple (SqT.of e)
    exact ref rfl fun t => RcNeAt.tuple_str z t p hu'
  | dK e =>
    obtain ⟨o, es, n, h1, h2, h3⟩ := dK_obj I e
    refine ref rfl fun t => rcn_dict z t ?_ hu'
    obtain ⟨c1, c2, c3⟩ := h2
    obtain ⟨oc, od, dt, sl⟩ := o
    dsimp only at c1 c2 h3
    subst c1 c2 h3
    exact ⟨_, _, _, h1⟩
  | non => exact op_ne pins s σ H _ _ v u Q I rx ry ⟨rfl, q⟩
  | bl b => exact op_ne pins s σ H _ _ v u Q I rx ry ⟨rfl, q⟩
  | int i => exact op_ne pins s σ H _ _ v u Q I rx ry ⟨rfl, q⟩
  | str w => exact op_ne pins s σ H _ _ v u Q I rx ry ⟨rfl, q⟩
theorem g_eqK {H : Hp} {Q : VK} {x : V} {T : String} {l : List Nat} (k : Kn H x T) (q : Q (.bl (decide (x = .str (mkS l)))) H) : qEqK x (.str (mkS l)) H Q := ⟨T, _, k, rfl, q⟩
theorem g_neK {H : Hp} {Q : VK} {x : V} {T : String} {l : List Nat} (k : Kn H x T) (q : Q (.bl (!decide (x = .str (mkS l)))) H) : qNeK x (.str (mkS l)) H Q := ⟨T, _, k, rfl, q⟩
end
end N0

/-! B4: loops; what the laws' own hands promise. -/
namespace N0
open PySem PySem.Spec PyProof.Rows L2
/-- what a for asks of its walk -/
def kFor (g : TG) (tb : TS) (D : Ends) (σ : L2.St) : It → Hp → Prop := fun J H1 => ∃ W : Nat → Nat → L2.St → Hp → Prop, (∃ m, W 0 m σ H1) ∧ ∀ i m σ H, W i m σ H →
  (J.stop i H ∧ D.nx σ H) ∨ (J.go i H ∧ ∃ N : L2.St → Hp → Prop, (∀ σ' H', N σ' H' → ∃ m', m' < m ∧ W (i + 1) m' σ' H') ∧
    ∀ x H', J.yld i H x H' → g x σ H' fun σ2 H2 => tb { D with nx := N, ct := N, bk := D.nx } σ2 H2)
def qRng1 (R : It → Hp → Prop) : List V → Hp → Prop := fun vs H => ∃ j : Int, vs = [.int j] ∧ -(2 ^ 62) ≤ j ∧ j < 2 ^ 62 ∧ R (Itr 0 j.toNat) H
def qList (K : PySem.W.Frag) (R : It → Hp → Prop) : VK := fun x H1 => ∃ a, x = .ref a ∧ (∃ xs, SqL K H1 a xs) ∧ R (Itl K a) H1
def qTup (K : PySem.W.Frag) (R : It → Hp → Prop) : VK := fun x H1 => ∃ a, x = .ref a ∧ (∃ xs, SqT K H1 a xs) ∧ R (Itt K a) H1
section
variable {σ : L2.St} {H : Hp} {ta : TA} {te : TE} {tb : TS} {g : TG} {wi : TI} {j : Nat} {K : PySem.W.Frag} {D : Ends} {R : It → Hp → Prop} {nx bk ct : L2.St → Hp → Prop} {rt : VK}
theorem g_for (h : wi σ H (kFor g tb D σ)) : tFor wi g tb D σ H := h
theorem g_iR1 (h : ta σ H (qRng1 R)) : iRng1 ta σ H R := h
theorem g_iL (h : te σ H (qList K R)) : iList K te σ H R := h
theorem g_iT (h : te σ H (qTup K R)) : iTup K te σ H R := h
theorem g_rng {n : Int} (h1 : -(2 ^ 61) ≤ n) (h2 : n ≤ 2 ^ 61) (Pv : Nat → L2.St → Hp → Prop) (p0 : Pv 0 σ H)
    (hs : ∀ (i : Nat) σ' H', (i : Int) < n → Pv i σ' H' → tb (Ends.mk (Pv (i + 1)) rt nx (Pv (i + 1))) (σ'.set j (some (.int (i : Int)))) H') (hd : ∀ σ' H', Pv n.toNat σ' H' → nx σ' H') :
    qRng1 (kFor (gName j) tb (Ends.mk nx rt bk ct) σ) [.int n] H := by
  refine ⟨n, rfl, by omega, by omega, for_range (lo := 0) (n := n.toNat) Pv p0 (fun i σ' H' hi p => ?_) hd⟩
  have q := hs i σ' H' (by omega) p
  have e : (0 : Int) + (i : Int) = (i : Int) := Int.zero_add _
  show tb _ (σ'.set j (some (.int (0 + (i : Int))))) H'
  rw [e]; exact q
theorem g_inL {a : Addr} {xs : List V} (hS : SqL K H a xs) (Pv : Nat → L2.St → Hp → Prop) (p0 : Pv 0 σ H) (hl : ∀ i σ' H', i ≤ xs.length → Pv i σ' H' → SqL K H' a xs)
    (hs : ∀ (i : Nat) x σ' H', xs[i]? = some x → Pv i σ' H' → tb (Ends.mk (Pv (i + 1)) rt nx (Pv (i + 1))) (σ'.set j (some x)) H') (hd : ∀ σ' H', Pv xs.length σ' H' → nx σ' H') :
    qList K (kFor (gName j) tb (Ends.mk nx rt bk ct) σ) (.ref a) H :=
  ⟨a, rfl, ⟨xs, hS⟩, for_list (K := K) (a := a) (xs := xs) Pv p0 hl (fun i x σ' H' hx p => hs i x σ' H' hx p) hd⟩
theorem g_inT {a : Addr} {xs : List V} (hS : SqT K H a xs) (Pv : Nat → L2.St → Hp → Prop) (p0 : Pv 0 σ H) (hl : ∀ i σ' H', i ≤ xs.length → Pv i σ' H' → SqT K H' a xs)
    (hs : ∀ (i : Nat) x σ' H', xs[i]? = some x → Pv i σ' H' → tb (Ends.mk (Pv (i + 1)) rt nx (Pv (i + 1))) (σ'.set j (some x)) H') (hd : ∀ σ' H', Pv xs.length σ' H' → nx σ' H') :
    qTup K (kFor (gName j) tb (Ends.mk nx rt bk ct) σ) (.ref a) H :=
  ⟨a, rfl, ⟨xs, hS⟩, for_tup (K := K) (a := a) (xs := xs) Pv p0 hl (fun i x σ' H' hx p => hs i x σ' H' hx p) hd⟩
end
/-! ### the laws' own hands -/
theorem Same.new {H : Hp} {p : Addr} {o : HO} (h : H p = none) : Same H (upd H p o) := fun x u e => by
  rw [upd_ne (ne_of_none e h)]; exact e
theorem Same.tup {K : PySem.W.Frag} {H H' : Hp} {a : Addr} {xs : List V} (e : Same H H') (h : SqT K H a xs) : SqT K H' a xs := by
  rcases h with (h | ⟨o, h⟩) | h
  · exact .inl (.inl (e _ _ h))
  · exact .inl (.inr ⟨o, e _ _ h⟩)
  · exact .inr h
def atF (ns : List Int) (k : Nat) : Int := ns.getD k 0
def spAt (K : PySem.W.Frag) : Sp := fun vs H Q _ => ∃ (a : Addr) (ns : List Int) (k : Nat), vs = [.ref a, .int k] ∧ SqL K H a (ns.map V.int) ∧ Q (.int (atF ns k)) H
def spLetter : Sp := fun vs H Q _ => ∃ (m n : Int), vs = [.int m, .int n] ∧ ∀ c H', Lc c → Same H H' → Q (.str (mkS [c])) H'
def spWord : Sp := fun vs H Q _ => ∃ (m n : Int) (most : Nat), vs = [.int m, .int n, .int most] ∧ most ≤ 1000 ∧ ∀ l H', Wd l → l.length ≤ most → Same H H' → Q (.str (mkS l)) H'
def isIntV : V → Bool
  | .int _ => true
  | _ => false
def spWhole : Sp := fun vs H Q _ => ∃ (x : V) (T : String), vs = [x] ∧ Kn H x T ∧ Q (.bl (isIntV x)) H
theorem whole_is {H : Hp} {x : V} {T : String} (k : Kn H x T) : (isK T "int" && !isK T "bool") = isIntV x := by
  cases k <;> (unfold isIntV; dsimp only; decide +kernel)
/-- a short thing -/
def Sh : V → Prop
  | .str z => z.length ≤ 1000
  | _ => True
/-- a change: its members, if it is a tuple -/
inductive Cg (H : Hp) : V → Option (List V) → Prop where
  | no {x : V} {T : String} (k : Kn H x T) (n : T ≠ "tuple") : Cg H x none
  | tup {p : Addr} {xs : List V} (e : H p = some (.tup xs)) (k : ∀ v ∈ xs, Sh v ∧ ∃ T, Kn H v T) : Cg H (.ref p) (some xs)
theorem Cg.same {H H' : Hp} {x : V} {o : Option (List V)} (c : Cg H x o) (s : Same H H') : Cg H' x o := by
  cases c with
  | no k n => exact .no (k.same s) n
  | tup e k => exact .tup (s _ _ e) fun v hv => let ⟨y, T, z⟩ := k v hv; ⟨y, T, z.same s⟩
/-- the letter that a thing is -/
def letOf : V → Option Nat
  | .str z => match z.cps.toList with
    | [c] => if Lc c then some c else none
    | _ => none
  | _ => none
def putAt (l : List Nat) (i c : Nat) : List Nat := l.take i ++ [c] ++ l.drop i
def cutAt (l : List Nat) (i : Nat) : List Nat := l.take i ++ l.drop (i + 1)
def turnAt (l : List Nat) (i c : Nat) : List Nat := l.take i ++ [c] ++ l.drop (i + 1)
def stepR (l : List Nat) : Option (List V) → Option (List Nat)
  | some [x, .int i] => if x = .str (mkS ("cut" : Str).cps.toList) ∧ 0 ≤ i ∧ i < l.length then some (cutAt l i.toNat) else none
  | some [x, .int i, y] => match letOf y with
    | some c => if x = .str (mkS ("put" : Str).cps.toList) ∧ 0 ≤ i ∧ i ≤ l.length then some (putAt l i.toNat c)
      else if x = .str (mkS ("turn" : Str).cps.toList) ∧ 0 ≤ i ∧ i < l.length ∧ l[i.toNat]? ≠ some c then some (turnAt l i.toNat c) else none
    | none => none
  | _ => none
theorem stepR_more (l : List Nat) (a b c d : V) (r : List V) : stepR l (some (a :: b :: c :: d :: r)) = none := by
  cases b <;> rfl
theorem stepR_two {l : List Nat} {a b : V} (h : isIntV b = false) : stepR l (some [a, b]) = none := by
  cases b <;> first | rfl | cases h
theorem stepR_tri {l : List Nat} {a b c : V} (h : isIntV b = false) : stepR l (some [a, b, c]) = none := by
  cases b <;> first | rfl | cases h
theorem stepR_cut {l : List Nat} {a : V} {i : Int} (h : a = .str (mkS ("cut" : Str).cps.toList) ∧ 0 ≤ i ∧ i < l.length) : stepR l (some [a, .int i]) = some (cutAt l i.toNat) := if_pos h
theorem stepR_cutN {l : List Nat} {a : V} {i : Int} (h : ¬ (a = .str (mkS ("cut" : Str).cps.toList) ∧ 0 ≤ i ∧ i < l.length)) : stepR l (some [a, .int i]) = none := if_neg h
theorem stepR_no {l : List Nat} {a y : V} {i : Int} (h : letOf y = none) : stepR l (some [a, .int i, y]) = none := by
  show (match letOf y with | some c => _ | none => none) = none
  rw [h]
theorem stepR_put {l : List Nat} {a y : V} {i : Int} {c : Nat} (hy : letOf y = some c) (h : a = .str (mkS ("put" : Str).cps.toList) ∧ 0 ≤ i ∧ i ≤ l.length) : stepR l (some [a, .int i, y]) = some (putAt l i.toNat c) := by
  show (match letOf y with | some c => _ | none => none) = _
  rw [hy]; exact if_pos h
theorem stepR_turn {l : List Nat} {a y : V} {i : Int} {c : Nat} (hy : letOf y = some c) (h : ¬ (a = .str (mkS ("put" : Str).cps.toList) ∧ 0 ≤ i ∧ i ≤ l.length)) (h2 : a = .str (mkS ("turn" : Str).cps.toList) ∧ 0 ≤ i ∧ i < l.length ∧ l[i.toNat]? ≠ some c) :
    stepR l (some [a, .int i, y]) = some (turnAt l i.toNat c) := by
  show (match letOf y with | some c => _ | none => none) = _
  rw [hy]; exact (if_neg h).trans (if_pos h2)
theorem stepR_else {l : List Nat} {a y : V} {i : Int} {c : Nat} (hy : letOf y = some c) (h : ¬ (a = .str (mkS ("put" : Str).cps.toList) ∧ 0 ≤ i ∧ i ≤ l.length)) (h2 : ¬ (a = .str (mkS ("turn" : Str).cps.toList) ∧ 0 ≤ i ∧ i < l.length ∧ l[i.toNat]? ≠ some c)) :
    stepR l (some [a, .int i, y]) = none := by
  show (match letOf y with | some c => _ | none => none) = _
  rw [hy]; exact (if_neg h).trans (if_neg h2)
theorem letOf_str {z : List Nat} {c : Nat} (h : letOf (.str (mkS z)) = some c) : z = [c] ∧ Lc c := by
  unfold letOf at h
  simp only [mkS_cps] at h
  split at h
  · split at h
    · injection h with h; subst h; exact ⟨rfl, by assumption⟩
    · cases h
  · cases h
theorem letOf_one {c : Nat} (h : Lc c) : letOf (.str (mkS [c])) = some c := by
  show (match (mkS [c]).cps.toList with | [c] => if Lc c then some c else none | _ => none) = some c
  rw [mkS_cps]; exact if_pos h
theorem letOf_bad {z : List Nat} (h : ∀ c, z = [c] → ¬ Lc c) : letOf (.str (mkS z)) = none := by
  cases e : letOf (.str (mkS z)) with
  | none => rfl
  | some c => obtain ⟨h1, h2⟩ := letOf_str e; exact absurd h2 (h c h1)
theorem letOf_kn {H : Hp} {y : V} {T : String} (k : Kn H y T) (h : T ≠ "str") : letOf y = none := by
  cases k <;> first | rfl | exact absurd rfl h
def optV : Option (List Nat) → V
  | none => .non
  | some l => .str (mkS l)
/-- an own error of the text -/
structure Xc (K : PySem.W.Frag) (mg : Str → Option Value) (x : Str) (C : Addr) : Prop where
  g : mg x = some (.ref C)
  ex : PySem.W.excIn K C He.veBase "ValueError.__new__" = true
  kp : PySem.W.keepIn K (.ref C) = true
  sb : PySem.W.subIn K (.ref C) (.type "BaseException") = some true
  ty : PySem.W.typeIn K (.ref C) = some (.type "type")
def resQ (C : Addr) (Q : VK) (E : XK) (H : Hp) (r : Option (List Nat)) : Prop := (∀ m, r = some m → Q (.str (mkS m)) H) ∧ (r = none → E (.ref C) none H)
def spIsLetter : Sp := fun vs H Q _ => ∃ (x : V) (T : String), vs = [x] ∧ Kn H x T ∧ Sh x ∧ Q (.bl (letOf x).isSome) H
def formB (nm : List Nat) (n : Int) : Option (List V) → Bool
  | none => false
  | some [] => false
  | some (a :: r) => decide ((((a :: r).length : Nat) : Int) = n) && decide (a = .str (mkS nm))
theorem formB_ok {nm : List Nat} {n : Int} {o : Option (List V)} (h : formB nm n o = true) : ∃ r, o = some (.str (mkS nm) :: r) ∧ ((r.length : Int) + 1 = n) := by
  match o, h with
  | some (a :: r), h =>
    obtain ⟨h1, h2⟩ := Bool.and_eq_true_iff.mp (show (decide _ && decide _) = true from h)
    have h1 := of_decide_eq_true h1
    have h2 := of_decide_eq_true h2
    subst h2
    refine ⟨r, rfl, ?_⟩
    rw [List.length_cons] at h1
    omega
theorem formB_no {nm : List Nat} {n : Int} {a : V} {r : List V} (h : formB nm n (some (a :: r)) = false) (hl : (((a :: r).length : Nat) : Int) = n) : ¬ a = .str (mkS nm) := fun z => by
  have h' : (decide _ && decide _) = false := h
  rw [decide_eq_true hl, decide_eq_true z] at h'
  cases h'
theorem stepR_none {l : List Nat} {o : Option (List V)} (h1 : formB ("put" : Str).cps.toList 3 o = false) (h2 : formB ("cut" : Str).cps.toList 2 o = false) (h3 : formB ("turn" : Str).cps.toList 3 o = false) : stepR l o = none := by
  match o with
  | none => rfl
  | some [] => rfl
  | some [a] => rfl
  | some [a, b] =>
    cases hb : isIntV b with
    | false => exact stepR_two hb
    | true =>
      cases b with
      | int i => exact stepR_cutN fun z => formB_no h2 rfl z.1
      | _ => cases hb
  | some [a, b, c] =>
    cases hb : isIntV b with
    | false => exact stepR_tri hb
    | true =>
      cases b with
      | int i =>
        cases e : letOf c with
        | none => exact stepR_no e
        | some d => exact stepR_else e (fun z => formB_no h1 rfl z.1) (fun z => formB_no h3 rfl z.1)
      | _ => cases hb
  | some (a :: b :: c :: d :: r) => exact stepR_more l a b c d r
def spForm : Sp := fun vs H Q _ => ∃ (x : V) (o : Option (List V)) (nm : List Nat) (n : Int), vs = [x, .str (mkS nm), .int n] ∧ 1 ≤ n ∧ Cg H x o ∧ Q (.bl (formB nm n o)) H
def okP (many : Int) : V → Bool
  | .int i => decide (0 ≤ i) && decide (i < many)
  | _ => false
def spPlace (C : Addr) : Sp := fun vs H Q E => ∃ (x : V) (T : String) (many : Int), vs = [x, .int many] ∧ Kn H x T ∧ (okP many x = true → Q .non H) ∧ (okP many x = false → E (.ref C) none H)
def spCLetter (C : Addr) : Sp := fun vs H Q E => ∃ (x : V) (T : String), vs = [x] ∧ Kn H x T ∧ Sh x ∧ ((letOf x).isSome = true → Q .non H) ∧ ((letOf x).isSome = false → E (.ref C) none H)
def putR (l : List Nat) (x y : V) : Option (List Nat) := stepR l (some [.str (mkS ("put" : Str).cps.toList), x, y])
def cutR (l : List Nat) (x : V) : Option (List Nat) := stepR l (some [.str (mkS ("cut" : Str).cps.toList), x])
def turnR (l : List Nat) (x y : V) : Option (List Nat) := stepR l (some [.str (mkS ("turn" : Str).cps.toList), x, y])
def spPut (C : Addr) : Sp := fun vs H Q E => ∃ (l : List Nat) (x y : V) (T U : String), vs = [.str (mkS l), x, y] ∧ l.length ≤ 1000 ∧ Kn H x T ∧ Kn H y U ∧ Sh y ∧ resQ C Q E H (putR l x y)
def spCut (C : Addr) : Sp := fun vs H Q E => ∃ (l : List Nat) (x : V) (T : String), vs = [.str (mkS l), x] ∧ l.length ≤ 1000 ∧ Kn H x T ∧ resQ C Q E H (cutR l x)
def spTurn (C : Addr) : Sp := fun vs H Q E => ∃ (l : List Nat) (x y : V) (T U : String), vs = [.str (mkS l), x, y] ∧ l.length ≤ 1000 ∧ Kn H x T ∧ Kn H y U ∧ Sh y ∧ resQ C Q E H (turnR l x y)
def spDone (C : Addr) : Sp := fun vs H Q E => ∃ (l : List Nat) (x : V) (o : Option (List V)), vs = [.str (mkS l), x] ∧ l.length ≤ 1000 ∧ Cg H x o ∧ resQ C Q E H (stepR l o)
def spStep : Sp := fun vs H Q _ => ∃ (l : List Nat) (x : V) (o : Option (List V)), vs = [.str (mkS l), x] ∧ l.length ≤ 1000 ∧ Cg H x o ∧ Q (optV (stepR l o)) H
end N0

/-! B5: things that a law makes: members, tuples, menus. -/
namespace N0
open PySem PySem.Spec PyProof.Rows L2
/-- a member of a thing -/
def ItG (H : Hp) (v : V) : Prop := Sh v ∧ ∃ T, Kn H v T
theorem ItG.same {H H' : Hp} {v : V} (g : ItG H v) (s : Same H H') : ItG H' v := let ⟨h, T, k⟩ := g; ⟨h, T, k.same s⟩
def Good (H : Hp) (v : V) : Prop := ∃ o, Cg H v o
theorem Good.same {H H' : Hp} {v : V} (g : Good H v) (s : Same H H') : Good H' v := let ⟨o, k⟩ := g; ⟨o, k.same s⟩
def ItE (te : TE) (σ : L2.St) (H : Hp) : Prop := ∀ H1, Same H H1 → ∀ Q : VK, (∀ v H2, Same H1 H2 → ItG H2 v → Q v H2) → te σ H1 Q
def ItA (ta : TA) (σ : L2.St) (H : Hp) (n : Nat) : Prop := ∀ H1, Same H H1 → ∀ Q : List V → Hp → Prop, (∀ vs H2, Same H1 H2 → vs.length = n → (∀ v ∈ vs, ItG H2 v) → Q vs H2) → ta σ H1 Q
def GoE (te : TE) (σ : L2.St) (H : Hp) : Prop := ∀ H1, Same H H1 → ∀ Q : VK, (∀ v H2, Same H1 H2 → Good H2 v → Q v H2) → te σ H1 Q
def GoA (ta : TA) (σ : L2.St) (H : Hp) (n : Nat) : Prop := ∀ H1, Same H H1 → ∀ Q : List V → Hp → Prop, (∀ vs H2, Same H1 H2 → vs.length = n → (∀ v ∈ vs, Good H2 v) → Q vs H2) → ta σ H1 Q
section
variable {σ : L2.St} {H : Hp} {te : TE} {ta : TA} {v : V} {i n : Nat}
theorem itG_int (k : Int) : ItG H (.int k) := ⟨trivial, _, .int k⟩
theorem itG_bl (k : Bool) : ItG H (.bl k) := ⟨trivial, _, .bl k⟩
theorem itG_non : ItG H .non := ⟨trivial, _, .non⟩
theorem itG_str {l : List Nat} (h : l.length ≤ 1000) : ItG H (.str (mkS l)) := ⟨by show (mkS l).length ≤ 1000; rw [mkS_len]; exact h, _, .str _⟩
theorem itE_var (h : σ[i]? = some (some v)) (g : ItG H v) : ItE (tVar i) σ H := fun H1 s Q q => ⟨v, h, q v H1 (Same.refl _) (g.same s)⟩
theorem itE_c (g : ∀ H, ItG H v) : ItE (tC v) σ H := fun H1 s Q q => q v H1 (Same.refl _) (g H1)
theorem itE_neg {k : Int} : ItE (tUn (rU fun i => .int (-i)) (tC (.int k))) σ H := fun H1 s Q q => ⟨k, rfl, q _ H1 (Same.refl _) (itG_int _)⟩
theorem itE_lst (h : ItA ta σ H n) (hn : n ≤ 1000) : ItE (tLst ta) σ H := fun H1 s Q q => h H1 s _ fun vs H2 s2 hl g => ⟨by rw [hl]; exact small_line (by omega), fun p hp => q _ _ (s2.trans (Same.new hp)) ⟨trivial, _, .lst upd_same⟩⟩
theorem itE_tup (h : ItA ta σ H n) (hn : n ≤ 1000) : ItE (tTup ta) σ H := fun H1 s Q q => h H1 s _ fun vs H2 s2 hl g => ⟨by rw [hl]; exact small_line (by omega), fun p hp => q _ _ (s2.trans (Same.new hp)) ⟨trivial, _, .tup upd_same⟩⟩
theorem itE_dK : ItE tDNewK σ H := fun H1 s Q q p hp => q _ _ (Same.new hp) ⟨trivial, _, .dK upd_same⟩
theorem itA_nil : ItA tNil σ H 0 := fun H1 s Q q => q [] H1 (Same.refl _) rfl fun _ h => nomatch h
theorem itA_cons (h : ItE te σ H) (hr : ItA ta σ H n) : ItA (tCons te ta) σ H (n + 1) := fun H1 s Q q => h H1 s _ fun v H2 s2 g => hr H2 (s.trans s2) _ fun vs H3 s3 hl gs =>
  q (v :: vs) H3 (s2.trans s3) (by rw [List.length_cons, hl]) fun u hu => by
    rcases List.mem_cons.mp hu with rfl | hu
    · exact g.same s3
    · exact gs u hu
theorem goE_tup (h : ItA ta σ H n) (hn : n ≤ 1000) : GoE (tTup ta) σ H := fun H1 s Q q => h H1 s _ fun vs H2 s2 hl g => ⟨by rw [hl]; exact small_line (by omega), fun p hp =>
  q _ _ (s2.trans (Same.new hp)) ⟨_, .tup upd_same fun v hv => (g v hv).same (Same.new hp)⟩⟩
theorem goE_lst (h : ItA ta σ H n) (hn : n ≤ 1000) : GoE (tLst ta) σ H := fun H1 s Q q => h H1 s _ fun vs H2 s2 hl g => ⟨by rw [hl]; exact small_line (by omega), fun p hp =>
  q _ _ (s2.trans (Same.new hp)) ⟨_, .no (.lst upd_same) (by decide)⟩⟩
theorem goE_c {T : String} (g : ∀ H, Kn H v T) (hT : T ≠ "tuple") : GoE (tC v) σ H := fun H1 s Q q => q v H1 (Same.refl _) ⟨_, .no (g H1) hT⟩
theorem goE_non : GoE (tC .non) σ H := goE_c (fun _ => .non) (by decide)
theorem goE_int {k : Int} : GoE (tC (.int k)) σ H := goE_c (fun _ => .int k) (by decide)
theorem goE_str {z : Str} : GoE (tC (.str z)) σ H := goE_c (fun _ => .str z) (by decide)
theorem itE_int {k : Int} : ItE (tC (.int k)) σ H := itE_c fun _ => itG_int k
theorem itE_bl {k : Bool} : ItE (tC (.bl k)) σ H := itE_c fun _ => itG_bl k
theorem itE_non : ItE (tC .non) σ H := itE_c fun _ => itG_non
theorem itE_str {z : Str} (h : z.length ≤ 1000) : ItE (tC (.str z)) σ H := itE_c fun _ => ⟨h, _, .str z⟩
theorem goA_nil : GoA tNil σ H 0 := fun H1 s Q q => q [] H1 (Same.refl _) rfl fun _ h => nomatch h
theorem goA_cons (h : GoE te σ H) (hr : GoA ta σ H n) : GoA (tCons te ta) σ H (n + 1) := fun H1 s Q q => h H1 s _ fun v H2 s2 g => hr H2 (s.trans s2) _ fun vs H3 s3 hl gs =>
  q (v :: vs) H3 (s2.trans s3) (by rw [List.length_cons, hl]) fun u hu => by
    rcases List.mem_cons.mp hu with rfl | hu
    · exact g.same s3
    · exact gs u hu
/-- a menu, then what follows -/
theorem goL (h : GoA ta σ H n) (hn : n ≤ 1000) {Q : VK} (q : ∀ p vs H2, Same H H2 → H p = none → H2 p = some (.lst vs) → vs.length = n → (∀ v ∈ vs, Good H2 v) → Q (.ref p) H2) : tLst ta σ H Q :=
  h H (Same.refl _) _ fun vs H2 s2 hl g => ⟨by rw [hl]; exact small_line (by omega), fun p hp => q p vs _ (s2.trans (Same.new hp)) (s2.free hp) upd_same hl fun v hv => (g v hv).same (Same.new hp)⟩
theorem itL (h : ItA ta σ H n) (hn : n ≤ 1000) {Q : VK} (q : ∀ p vs H2, Same H H2 → H p = none → H2 p = some (.lst vs) → vs.length = n → (∀ v ∈ vs, ItG H2 v) → Q (.ref p) H2) : tLst ta σ H Q :=
  h H (Same.refl _) _ fun vs H2 s2 hl g => ⟨by rw [hl]; exact small_line (by omega), fun p hp => q p vs _ (s2.trans (Same.new hp)) (s2.free hp) upd_same hl fun v hv => (g v hv).same (Same.new hp)⟩
theorem g_cat {a b : Addr} {xs zs : List V} {Q : VK} (h1 : H a = some (.lst xs)) (h2 : H b = some (.lst zs)) (hl : xs.length + zs.length ≤ 100000) (q : ∀ p, H p = none → Q (.ref p) (upd H p (.lst (xs ++ zs)))) : rCat (.ref a) (.ref b) H Q :=
  ⟨a, b, xs, zs, rfl, rfl, h1, h2, small_line hl, q⟩
end
def spSign : Sp := fun vs H Q _ => ∃ n : Int, vs = [.int n] ∧ ∀ c, Q (.str (mkS [c])) H
def spChange : Sp := fun vs H Q _ => ∃ (m n : Int) (l : List Nat), vs = [.int m, .str (mkS l), .int n] ∧ l.length ≤ 1000 ∧ ∀ x o H', Same H H' → Cg H' x o → Q x H'
end N0

/-! B6: a def that is handed the error that a suite holds. -/
namespace N0
open PySem PySem.Spec PyProof.Rows L2 L2H

/-- the def called x, handed an error (its object is as Z says) while that one is held: its promise, by the error's address -/
structure Dz (P : Program) (w : World) (K : PySem.W.Frag) (mg : Str → Option Value) (base : Heap) (k : Nat) (x : Str) (ps : List Str) (Z : Obj → Prop) (sp : Addr → Sp) : Prop where
  ex : ∃ (f : Addr) (fd : FuncData), mg x = some (.ref f) ∧ PySem.W.keepIn K (.ref f) = true ∧ Binds K fd ps [] ∧ (∀ a vs H Q E, sp a vs H Q E → vs.length = ps.length) ∧
    ∀ (A : Around) (outer : List Env) (s : Shared) (H : Hp) (args : Args) (us : List Value) (vs : List V) (Q : VK) (p : Addr × Obj), RoomH k A → Z p.2 → PinOk outer H s p →
      Env0 P w K mg base A outer s H → BindsTo s fd args (ps.zip us) → Vals vs us → sp p.1 vs H Q E0 → codeAny (model P w) A (.call (.ref f) args) (CR CX0 outer P w H s Q E0) s
section
variable {P : Program} {w : World} {K : PySem.W.Frag} {mg : Str → Option Value} {base : Heap} {x : Str} {st : Stmt} {N ps : List Str} {k : Nat} {Z : Obj → Prop} {sp : Addr → Sp}
theorem At.okZ (A : At K mg x st) (S : FnScope N ps (defScope st)) (hb : BindN x st ps) (len : ∀ a vs H Q E, sp a vs H Q E → vs.length = ps.length)
    (hbody : ∀ (f : Addr) (cdv : Value) (A : Around) (outer : List Env) (s : Shared) (H : Hp) (vs : List V) (Q : VK) (p : Addr × Obj), Z p.2 → RoomH k (A.deeper (envOfC x (defScope st) s.heap.objs.size f cdv)) → sp p.1 vs H Q E0 →
      ∃ t, PSs (cxH CX0 P w K mg base N x (defScope st) f cdv A outer s H E0 p) (defBody st) t ∧ t { nx := fun _ H' => Q .non H', rt := Q } (start N vs) H) : Dz P w K mg base (k + 1) x ps Z sp := by
  obtain ⟨f, fd, hm, F⟩ := A.ex
  refine ⟨f, fd, hm, F.kp, F.bindsN hb, len, ?_⟩
  obtain ⟨oc, od, dV, kV, doc, pm, an, cdv, ct, osl, rfl, lk, hcd, _, _⟩ := F.ex
  intro A outer s H args us vs Q p hr hz hpin e0 hbt r hsp
  have hl := len _ _ _ _ _ hsp
  have kIn : K.In s.heap := e0.mod.kin.keeps fun b o e => (e0.bs b o e).1
  have kLim : s.heap.NoLimit := e0.mod.nolimit.keeps fun b o e => (e0.bs b o e).1
  have kinds : ∀ y ∈ ps.zip us, (defScope st).names.lookup y.1 = some .local ∨ ((defScope st).names.lookup y.1 = some .cell ∧ ((cellsFrom (s.heap.objs.size + 1) (defScope st).names []).lookup y.1).isSome = true) := by
    rintro ⟨n, v⟩ hy
    rcases S.par n (List.of_mem_zip hy).1 with q | q
    · exact .inl q
    · exact .inr ⟨q, PySem.W.cellsFrom_some _ _ _ (.inl q)⟩
  refine codeAny_call_function hr.depth (kIn _ _ lk) rfl S.co S.gen rfl (PySem.W.codeRec_of kIn hcd) (hbt _ _ _ _ (wpAny_newFunctionEnv_cells S.kind kinds fun env he s1 xc => ?_))
  subst he
  refine ⟨kLim.keeps xc.toInCall.keep, codeAny_func ?_⟩
  obtain ⟨t, ht, hq⟩ := hbody f cdv A outer s H vs Q p hz (hr.deeper _) hsp
  have I := inv_startH (CX := CX0) (E := E0) S hpin e0 hl r xc
  refine wpAny_mono (ht.run [] s1 _ H _ I hq) (fun fl s' hs => ?_) (fun e s' hs => hs)
  cases fl with
  | next =>
    obtain ⟨σ', H', J, q⟩ := hs
    exact ⟨.non, H', J.os, J.bare, J.base, J.hok, rfl, q⟩
  | ret u =>
    obtain ⟨v, σ', H', J, rv, q⟩ := hs
    exact ⟨v, H', J.os, J.bare, J.base, J.hok, rv, q⟩
  | brk =>
    obtain ⟨_, _, _, z⟩ := hs
    exact False.elim z
  | cont =>
    obtain ⟨_, _, _, z⟩ := hs
    exact False.elim z
end
section
variable {X : Cx} {k : Nat} {ps : List Str} {Z : Obj → Prop} {sp : Addr → Sp} {x : Str} {a : Addr} {oe : Obj} {q pos : Pos} {e : Expr} {es : List Expr} {t : TA}
def tCallZ (sp : Addr → Sp) (a : Addr) (t : TA) : TE := fun σ H Q => t σ H fun vs H1 => sp a vs H1 Q E0
theorem pe_callZ (D : Dz X.prog X.w X.K X.mg X.base k x ps Z sp) (hr : RoomH k X.A) (hz : Z oe) (hp : (a, oe) ∈ X.pn) (hg : Gl X x) (ha : PA X (e :: es) t)
    (hdb : (x == ("__debug__" : Str)) = false := by decide) (he : starEach (e :: es) X.env = (false, eval e X.env) :: starEach es X.env := by rfl) (hpl : (backTo pos (starEach es X.env)).any (·.1) = false := by rfl) :
    PE X (.Call (.Name x q) (e :: es) [] pos) (tCallZ sp a t) := by
  obtain ⟨f, fd, hm, hk, hb, len, F⟩ := D.ex
  refine ⟨fun pins s σ H Q I h => wpAny_Call_Name_kw (ld_glob I hg hm ?_ hdb)⟩
  refine PySem.W.callWith_K (h₀ := X.base) I.ok.mod.kin hk (thn (ha.run pos pins s σ H _ I h) fun us s1 ⟨vs, H1, I1, r, q⟩ => ⟨I1.kIn, ?_⟩) he hpl
  have hu : us.length = ps.length := by rw [← r.length]; exact len _ _ _ _ _ q
  have b := hb s1 us I1.kIn (by rw [List.append_nil]; exact hu)
  rw [List.append_nil] at b
  obtain ⟨p1, p2, p3, p4, p5⟩ := I1.pin (a, oe) (List.mem_append_left _ hp)
  have pin : PinOk X.stack H1 s1 (a, oe) := ⟨p1, p2, fun z => (List.mem_cons.mp (I1.stkSub a z)).elim p3 p4, p5⟩
  refine wpAny_call (codeAny_mono (F X.A X.stack s1 H1 ⟨us, []⟩ us vs Q (a, oe) hr hz pin I1.env0 b r q) fun r s' hq => ?_)
  cases r with
  | error e => exact False.elim hq
  | ok fl =>
    cases fl with
    | ret u => exact I1.after hq
    | next => exact False.elim hq
    | brk => exact False.elim hq
    | cont => exact False.elim hq
end
theorem g_callZ {sp : Addr → Sp} {a : Addr} {t : TA} {σ : L2.St} {H : Hp} {Q : VK} (h : t σ H fun vs H1 => sp a vs H1 Q E0) : tCallZ sp a t σ H Q := h
theorem roomH_mark {j k : Nat} {A : Around} {v : Option Value} (r : Room k A) (h : j ≤ k) : RoomH j (A.mark v) :=
  ⟨by have := r.dp; show A.depth + 3 * j + 5 < _; omega, by have := r.un; show A.units + 16 * j + 200 < _; omega⟩
/-- isinstance of an error that is pinned -/
theorem call_isP {X : Cx} {a D : Addr} {oe : Obj} (C : ExcC X.K D) (hz : Zc (.ref D) none oe) (hf : ∃ vs, oe.data = .fields vs) (hp : (a, oe) ∈ X.pn) : CallR X (.builtin "isinstance") (rIsE X.K D a) := by
  intro pins s σ H xs us Q I r h
  obtain ⟨c, cv, b, rfl, hcv, e, q⟩ := h
  obtain ⟨u1, u2, rfl, r1, r2⟩ := vals2 r
  cases r1
  cases hcv _ r2
  have at_ := (I.pin (a, oe) (List.mem_append_left _ hp)).1
  obtain ⟨vs, hv⟩ := hf
  obtain ⟨oc, od, dt, sl⟩ := oe
  obtain ⟨h1, h2⟩ := hz
  dsimp only at h1 h2 hv
  subst h1 h2 hv
  exact PySem.W.kia_one (PySem.W.handS_kitx_exc C.hg C.hk C.hs C.hd C.ha C.hn C.ht C.hm) I.kIn ⟨at_, rfl, rfl, trivial⟩ e (fun z => nomatch z) fun tk => ⟨.bl b, H, I.tok tk, rfl, q⟩
/-- a part that stands under a condition on what is held -/
def tG (p : Prop) (t : TS) : TS := fun D σ H => p ∧ t D σ H
theorem pss_G {X : Cx} {p : Prop} {b : List Stmt} {t : TS} (h : p → PSs X b t) : PSs X b (tG p t) := ⟨fun pins s σ H D I hw => (h hw.1).run pins s σ H D I hw.2⟩
/-- what is known of the classes: D an error's own, and which of five it is -/
structure Kd (K : PySem.W.Frag) (mg : Str → Option Value) (D CW CC CM CF : Addr) (b : List Bool) : Prop where
  xc : ExcC K D
  gW : mg "BadWord" = some (.ref CW)
  gC : mg "BadChange" = some (.ref CC)
  gM : mg "BadMost" = some (.ref CM)
  gF : mg "Full" = some (.ref CF)
  kV : PySem.W.kitOne K (.ref D) (.type "ValueError") = some true
  kk : ∃ b1 b2 b3 b4, b = [b1, b2, b3, b4] ∧ PySem.W.kitOne K (.ref D) (.ref CW) = some b1 ∧ PySem.W.kitOne K (.ref D) (.ref CC) = some b2 ∧ PySem.W.kitOne K (.ref D) (.ref CM) = some b3 ∧ PySem.W.kitOne K (.ref D) (.ref CF) = some b4
/-- an error's object -/
def Eo (D : Addr) (o : Obj) : Prop := Zc (.ref D) none o ∧ ∃ vs, o.data = .fields vs
theorem g_isE {K : PySem.W.Frag} {D a C : Addr} {b : Bool} {H : Hp} {Q : VK} (e : PySem.W.kitOne K (.ref D) (.ref C) = some b) (q : Q (.bl b) H) : rIsE K D a [.ref a, .ref C] H Q := ⟨.ref C, .ref C, b, rfl, fun _ r => r, e, q⟩
theorem g_isET {K : PySem.W.Frag} {D a : Addr} {T : String} {b : Bool} {H : Hp} {Q : VK} (e : PySem.W.kitOne K (.ref D) (.type T) = some b) (q : Q (.bl b) H) : rIsE K D a [.ref a, .ty T] H Q := ⟨.ty T, .type T, b, rfl, fun _ r => r, e, q⟩
/-- what the laws ask of an error: which of four kinds it is -/
def spKinds (b : List Bool) : Addr → Sp := fun a vs H Q _ => vs = [.ref a] ∧ ∀ p H', Same H H' → H p = none → H' p = some (.lst (b.map V.bl)) → Q (.ref p) H'
/-- done, asked by the law: the text behind, or None -/
def spLD : Sp := fun vs H Q _ => ∃ (l : List Nat) (x : V) (o : Option (List V)), vs = [.str (mkS l), x] ∧ l.length ≤ 1000 ∧ Cg H x o ∧ ∀ H', Same H H' → Q (optV (stepR l o)) H'
/-- the law: True comes out -/
def spLaw (K : PySem.W.Frag) : Sp := fun vs H Q _ => ∃ (a : Addr) (ns : List Int), vs = [.ref a] ∧ SqL K H a (ns.map V.int) ∧ ns.length ≤ 63 ∧ ∀ H', Q (.bl true) H'
theorem cutV_from (xs : List V) (k : Nat) : cutV xs (some (k : Int)) none = xs.drop k := by
  unfold cutV
  rw [HT.sIx_nat, HT.sIx_none]
  rcases Nat.le_total k xs.length with h | h
  · rw [Nat.min_eq_left h]
    exact List.take_of_length_le (by rw [List.length_drop]; omega)
  · rw [Nat.min_eq_right h, List.drop_of_length_le (Nat.le_refl _), List.drop_of_length_le h]
    simp
theorem ints_get {ns : List Int} {i : Nat} {x : V} (h : (ns.map V.int)[i]? = some x) : ∃ n, x = .int n ∧ ns[i]? = some n := by
  rw [List.getElem?_map] at h
  cases e : ns[i]? with
  | none => rw [e] at h; cases h
  | some n => rw [e] at h; exact ⟨n, (Option.some.inj h).symm, rfl⟩
end N0

/-! B7: the head's facts, with one more test of our own. -/
namespace N0
open PySem PySem.Spec PyProof.Rows L2
def obsM (fa : List He.Fa) (fn : List He.DefD) (ex : PySem.W.Frag → Bool) (K : PySem.W.Frag) : He.AlD := ((He.obsD fa fn K).1 && ex K, (He.obsD fa fn K).2)
def obsMG (n : Nat) (fa : List He.Fa) (fn : List He.DefD) (ex : PySem.W.Frag → Bool) (g : Addr → Option Obj) : He.AlD := obsM fa fn ex (He.frG g (He.asD g n))
def hookM (n : Nat) (fa : List He.Fa) (fn : List He.DefD) (ex : PySem.W.Frag → Bool) : PySem.W.Hook where
  α := He.AlD
  obs := fun s => obsMG n fa fn ex s.heap.get?
  val := fun _ => He.valD fn
  says := fun _ h => ∃ K : PySem.W.Frag, K.In h ∧ He.SaysD fa fn K ∧ ex K = true
  of := fun w s e => by
    refine ⟨He.frG s.heap.get? (He.asD s.heap.get? n), He.frG_in, ?_⟩
    obtain ⟨h1, h2⟩ := Prod.mk.inj (show ((He.obsD fa fn _).1 && ex _, (He.obsD fa fn _).2) = (true, fn.map He.DefD.val) from e)
    obtain ⟨h3, h4⟩ := Bool.and_eq_true_iff.mp h1
    exact ⟨Prod.ext h3 h2, h4⟩
  keeps := fun _ _ _ ⟨K, kin, c⟩ k => ⟨K, kin.keeps k, c⟩
theorem obsMG_eq {n : Nat} {fa : List He.Fa} {fn : List He.DefD} {ex : PySem.W.Frag → Bool} {g : Addr → Option Obj} {s : Shared} (h : ∀ a, g a = s.heap.get? a) : obsMG n fa fn ex g = (hookM n fa fn ex).obs s := by
  rw [show g = s.heap.get? from funext h]; rfl
/-- a def of the text, where it stands -/
abbrev dOf (x : Str) (st : Stmt) : He.DefD := ⟨(x, none), x, x, defArgs st, defBody st, defScope st, [], []⟩
theorem at_of_says {fa : List He.Fa} {fn : List He.DefD} {K : PySem.W.Frag} {h : Heap} {mg : Str → Option Value} (X : K.In h) (G : h.Ns mainGlobals mg) (c : He.SaysD fa fn K) (i j : Nat) {x : Str} {st : Stmt}
    (hi : fn[i]? = some (dOf x st)) (hj : fa[j]? = some (.glo x)) : At K mg x st := by
  obtain ⟨fd, F⟩ := c.def_ i hi
  exact ⟨_, fd, He.glo_ok X G (c.fact j hj), F⟩
theorem eqD {α : Type} [DecidableEq α] {a b : α} (h : decide (a = b) = true) : a = b := of_decide_eq_true h
/-- what isinstance leans on, of an error's class -/
def excCB (K : PySem.W.Frag) (D : Addr) : Bool :=
  decide (PySem.W.findIn K (.ref D) "__getattribute__" = some (some (.builtin "BaseException.__getattribute__"))) && (decide (PySem.W.findIn K (.ref D) "__getattr__" = some none) &&
  (decide (PySem.W.subIn K (.ref D) (.type "BaseException") = some true) && (PySem.W.hasDictIn K D && (decide (PySem.W.findIn K (.ref D) "__class__" = some (some (.builtin "object.__class__"))) &&
  (decide (PySem.W.specialIn K (.builtin "object.__class__") "__get__" = some (some (.builtin "getset_descriptor.__get__"))) && (decide (PySem.W.takesIn K (.builtin "object.__class__") = some true) &&
  decide (PySem.W.mroIn K D (.type "object") = some true)))))))
theorem excCB_ok {K : PySem.W.Frag} {D : Addr} (h : excCB K D = true) : ExcC K D := by
  unfold excCB at h
  simp only [Bool.and_eq_true, decide_eq_true_eq] at h
  obtain ⟨h1, h2, h3, h4, h5, h6, h7, h8⟩ := h
  exact ⟨h1, h2, h3, h4, h5, h6, h7, h8⟩
theorem xc_of {fa : List He.Fa} {fn : List He.DefD} {K : PySem.W.Frag} {h : Heap} {mg : Str → Option Value} (X : K.In h) (G : h.Ns mainGlobals mg) (c : He.SaysD fa fn K) (i j : Nat) {x : Str} (hi : fa[i]? = some (.exc x)) (hj : fa[j]? = some (.glo x)) :
    Xc K mg x (He.ga K x) := by
  obtain ⟨h1, h2, h3, h4⟩ := He.exc_ok (c.fact i hi)
  exact ⟨He.glo_ok X G (c.fact j hj), h1, h2, h3, h4⟩
end N0

/-! B8: changes in a row; lists that are the same. -/
namespace N0
open PySem PySem.Spec PyProof.Rows L2
/-- data that == tells -/
def Dat (K : PySem.W.Frag) (H : Hp) (v : V) (k : Nat) : Prop := ∃ d, Dp K H v d ∧ d.canLay0 = true ∧ d.depth ≤ k
theorem dat_all {K : PySem.W.Frag} {H : Hp} {k : Nat} : ∀ {xs : List V}, (∀ v ∈ xs, Dat K H v k) → ∃ ds, DpAll K H xs ds ∧ PyData.canLayAll0 ds = true ∧ PyData.depthAll ds ≤ k
  | [], _ => ⟨[], .nil, rfl, by show PyData.depthAll [] ≤ k; simp [PyData.depthAll]⟩
  | x :: xs, h => by
    obtain ⟨d, h1, h2, h3⟩ := h x (List.mem_cons_self ..)
    obtain ⟨ds, g1, g2, g3⟩ := dat_all fun v hv => h v (List.mem_cons_of_mem _ hv)
    refine ⟨d :: ds, .cons h1 g1, ?_, ?_⟩
    · show (d.canLay0 && PyData.canLayAll0 ds) = true
      rw [h2, g2]; rfl
    · simp only [PyData.depthAll]; omega
theorem eqD_same {K : PySem.W.Frag} {H : Hp} {Q : VK} {p q : Addr} {xs : List V} (hp : SqL K H p xs) (hq : SqL K H q xs) (h : ∀ v ∈ xs, Dat K H v 20) (r : Q (.bl true) H) : rEqD K (.ref p) (.ref q) H Q := by
  obtain ⟨ds, h1, h2, h3⟩ := dat_all h
  have c : PyData.canLay0 (.list ds) = true := h2
  have sh : SeqAt.shaped (.list ds) = true := by
    unfold SeqAt.shaped
    rw [c, Bool.true_and, decide_eq_true_iff]
    simp only [PyData.depth]; omega
  refine ⟨.list ds, .list ds, .lst hp h1, .lst hq h1, sh, sh, ?_⟩
  rw [SeqAt.eqv_refl _ c]; exact r
theorem dat_int {K : PySem.W.Frag} {H : Hp} {i : Int} {k : Nat} : Dat K H (.int i) k := ⟨.int i, .int i, by simp [PyData.canLay0], by simp [PyData.depth]⟩
theorem dat_non {K : PySem.W.Frag} {H : Hp} {k : Nat} : Dat K H .non k := ⟨.none, .non, by simp [PyData.canLay0], by simp [PyData.depth]⟩
theorem dat_str {K : PySem.W.Frag} {H : Hp} {z : Str} {k : Nat} (h : PyData.strOk z = true) : Dat K H (.str z) k := ⟨.str z, .str z, by simp [PyData.canLay0, h], by simp [PyData.depth]⟩
theorem dat_tup {K : PySem.W.Frag} {H : Hp} {p : Addr} {xs : List V} {k : Nat} (hp : SqT K H p xs) (h : ∀ v ∈ xs, Dat K H v k) : Dat K H (.ref p) (k + 1) := by
  obtain ⟨ds, h1, h2, h3⟩ := dat_all h
  exact ⟨.tuple ds, .tup hp h1, h2, by simp only [PyData.depth]; omega⟩
theorem dat_lst {K : PySem.W.Frag} {H : Hp} {p : Addr} {xs : List V} {k : Nat} (hp : SqL K H p xs) (h : ∀ v ∈ xs, Dat K H v k) : Dat K H (.ref p) (k + 1) := by
  obtain ⟨ds, h1, h2, h3⟩ := dat_all h
  exact ⟨.list ds, .lst hp h1, h2, by simp only [PyData.depth]; omega⟩
theorem strOk_small {l : List Nat} (h : ∀ c ∈ l, c < 0x110000) : PyData.strOk (mkS l) = true := by
  unfold PyData.strOk
  rw [Array.all_eq_true]
  intro i hi
  refine decide_eq_true (h _ ?_)
  have : (mkS l).cps[i] = l[i]'(by simpa [mkS] using hi) := by simp [mkS]
  rw [this]
  exact List.getElem_mem _
theorem strOk_wd {l : List Nat} (h : Wd l) : PyData.strOk (mkS l) = true := strOk_small fun c hc => by have := (h c hc).2; omega
mutual
theorem Dp.same {K : PySem.W.Frag} {H H' : Hp} (s : Same H H') : ∀ {v : V} {d : PyData}, Dp K H v d → Dp K H' v d
  | _, _, .non => .non
  | _, _, .bl b => .bl b
  | _, _, .int i => .int i
  | _, _, .str x => .str x
  | _, _, .lst h a => .lst (s.seq h) (DpAll.same s a)
  | _, _, .tup h a => .tup (Same.tup s h) (DpAll.same s a)
theorem DpAll.same {K : PySem.W.Frag} {H H' : Hp} (s : Same H H') : ∀ {vs : List V} {ds : List PyData}, DpAll K H vs ds → DpAll K H' vs ds
  | _, _, .nil => .nil
  | _, _, .cons a b => .cons (Dp.same s a) (DpAll.same s b)
end
theorem Dat.same {K : PySem.W.Frag} {H H' : Hp} {v : V} {k : Nat} (g : Dat K H v k) (s : Same H H') : Dat K H' v k := let ⟨d, h1, h2⟩ := g; ⟨d, Dp.same s h1, h2⟩
/-! ### changes in a row -/
def ledR : List Nat → List (Option (List V)) → Option (List Nat)
  | l, [] => some l
  | l, o :: r => match stepR l o with
    | some m => ledR m r
    | none => none
theorem ledR_app (l : List Nat) (a b : List (Option (List V))) : ledR l (a ++ b) = (ledR l a).bind fun m => ledR m b := by
  induction a generalizing l with
  | nil => rfl
  | cons o r ih =>
    show (match stepR l o with | some m => ledR m (r ++ b) | none => none) = _
    show _ = (match stepR l o with | some m => ledR m r | none => none).bind _
    cases stepR l o with
    | none => rfl
    | some m => exact ih m
theorem ledR_one (l : List Nat) (o : Option (List V)) : ledR l [o] = stepR l o := by
  show (match stepR l o with | some m => some m | none => none) = _
  cases stepR l o <;> rfl
theorem stepR_len {l m : List Nat} {o : Option (List V)} (h : stepR l o = some m) : m.length ≤ l.length + 1 := by
  have lp : ∀ i c, (putAt l i c).length ≤ l.length + 1 := fun i c => by
    simp only [putAt, List.length_append, List.length_cons, List.length_nil, List.length_take, List.length_drop]; omega
  have lt : ∀ i c, i < l.length → (turnAt l i c).length ≤ l.length + 1 := fun i c h => by
    simp only [turnAt, List.length_append, List.length_cons, List.length_nil, List.length_take, List.length_drop]; omega
  have lc : ∀ i, (cutAt l i).length ≤ l.length + 1 := fun i => by
    simp only [cutAt, List.length_append, List.length_take, List.length_drop]; omega
  match o, h with
  | some [x, .int i], h =>
    change (if _ then _ else _) = _ at h
    split at h
    · injection h with h; subst h; exact lc _
    · cases h
  | some [x, .int i, y], h =>
    change (match letOf y with | some c => _ | none => none) = _ at h
    split at h
    · split at h
      · injection h with h; subst h; exact lp _ _
      · split at h
        · rename_i hh
          injection h with h; subst h
          exact lt _ _ (by have := hh.2.1; have := hh.2.2.1; omega)
        · cases h
    · cases h
theorem ledR_len {l m : List Nat} {os : List (Option (List V))} (h : ledR l os = some m) : m.length ≤ l.length + os.length := by
  induction os generalizing l with
  | nil => injection h with h; subst h; simp
  | cons o r ih =>
    change (match stepR l o with | some m => ledR m r | none => none) = _ at h
    cases e : stepR l o with
    | none => rw [e] at h; cases h
    | some k =>
      rw [e] at h
      have h1 := ih h
      have h2 := stepR_len e
      rw [List.length_cons]; omega
/-- an odd one within -/
theorem ledR_odd {l m : List Nat} {os : List (Option (List V))} {o : Option (List V)} (h : ledR l os = some m) (k : Nat) (no : ∀ z : List Nat, z.length ≤ l.length + os.length → stepR z o = none) : ledR l (os.take k ++ [o] ++ os.drop k) = none := by
  have e : ledR l (os.take k ++ os.drop k) = some m := by rw [List.take_append_drop]; exact h
  rw [ledR_app] at e
  cases e1 : ledR l (os.take k) with
  | none => rw [e1] at e; cases e
  | some z =>
    have hz := ledR_len e1
    rw [List.append_assoc, ledR_app, e1]
    show ledR z ([o] ++ os.drop k) = none
    rw [ledR_app, ledR_one, no z (by rw [List.length_take] at hz; omega)]; rfl
def spLed (C : Addr) (K : PySem.W.Frag) : Sp := fun vs H Q E => ∃ (l : List Nat) (p : Addr) (xs : List V) (os : List (Option (List V))), vs = [.str (mkS l), .ref p] ∧ l.length ≤ 200 ∧ xs.length ≤ 200 ∧ SqL K H p xs ∧ xs.length = os.length ∧
  (∀ (i : Nat) x o, xs[i]? = some x → os[i]? = some o → Cg H x o) ∧ resQ C Q E H (ledR l os)
/-- a change that the laws make -/
def FitX : List V → Prop := fun xs => (∃ i : Int, xs = [.str (mkS ("cut" : Str).cps.toList), .int i]) ∨ ∃ (n : List Nat) (i : Int) (c : Nat), xs = [.str (mkS n), .int i, .str (mkS [c])] ∧ n.length ≤ 10 ∧ (∀ c ∈ n, c < 1000) ∧ Lc c
theorem FitX.cg {H : Hp} {q : Addr} {xs : List V} (f : FitX xs) (e : H q = some (.tup xs)) : Cg H (.ref q) (some xs) := by
  refine .tup e fun v hv => ?_
  rcases f with ⟨i, rfl⟩ | ⟨n, i, c, rfl, hn, _, _⟩
  · simp only [List.mem_cons, List.not_mem_nil, or_false] at hv
    rcases hv with rfl | rfl
    · exact ⟨by show (mkS _).length ≤ 1000; decide +kernel, _, .str _⟩
    · exact ⟨trivial, _, .int _⟩
  · simp only [List.mem_cons, List.not_mem_nil, or_false] at hv
    rcases hv with rfl | rfl | rfl
    · exact ⟨by show (mkS _).length ≤ 1000; rw [mkS_len]; omega, _, .str _⟩
    · exact ⟨trivial, _, .int _⟩
    · exact ⟨by show (mkS _).length ≤ 1000; rw [mkS_len]; show 1 ≤ 1000; decide, _, .str _⟩
theorem FitX.dat {K : PySem.W.Frag} {H : Hp} {q : Addr} {xs : List V} (f : FitX xs) (e : H q = some (.tup xs)) : Dat K H (.ref q) 20 := by
  refine dat_tup (k := 19) (SqT.of e) fun v hv => ?_
  rcases f with ⟨i, rfl⟩ | ⟨n, i, c, rfl, hn, hs, hc⟩
  · simp only [List.mem_cons, List.not_mem_nil, or_false] at hv
    rcases hv with rfl | rfl
    · exact dat_str (by decide +kernel)
    · exact dat_int
  · simp only [List.mem_cons, List.not_mem_nil, or_false] at hv
    rcases hv with rfl | rfl | rfl
    · exact dat_str (strOk_small fun c hc => by have := hs c hc; omega)
    · exact dat_int
    · exact dat_str (strOk_wd (Wd.one hc))
def spFitting : Sp := fun vs H Q _ => ∃ (m n : Int) (l : List Nat), vs = [.int m, .str (mkS l), .int n] ∧ l.length ≤ 500 ∧
  ∀ p q xs l' H', Same H H' → H' p = some (.tup [.ref q, .str (mkS l')]) → H' q = some (.tup xs) → FitX xs → stepR l (some xs) = some l' → Q (.ref p) H'
end N0

/-! B9: lists of changes that a law makes. -/
namespace N0
open PySem PySem.Spec PyProof.Rows L2
/-- all tuples stay -/
def TSame (H H' : Hp) : Prop := ∀ q ys, H q = some (.tup ys) → H' q = some (.tup ys)
theorem TSame.of {H H' : Hp} (s : Same H H') : TSame H H' := fun q ys e => s q _ e
theorem TSame.trans {H H1 H2 : Hp} (a : TSame H H1) (b : TSame H1 H2) : TSame H H2 := fun q ys e => b q ys (a q ys e)
theorem TSame.lst {H : Hp} {p : Addr} {xs zs : List V} (e : H p = some (.lst xs)) : TSame H (upd H p (.lst zs)) := fun q ys h => by
  rw [upd_ne (ne_of h e (by intro z; cases z))]; exact h
/-- a plain member -/
def PlT (v : V) : Prop := (∃ i, v = .int i) ∨ ∃ l : List Nat, v = .str (mkS l) ∧ l.length ≤ 1000 ∧ ∀ c ∈ l, c < 1000
def Item (H : Hp) (x : V) (o : Option (List V)) : Prop := (x = .non ∧ o = none) ∨ ∃ q ys, x = .ref q ∧ o = some ys ∧ H q = some (.tup ys) ∧ ∀ v ∈ ys, PlT v
theorem Item.same {H H' : Hp} {x : V} {o : Option (List V)} (g : Item H x o) (s : TSame H H') : Item H' x o := by
  rcases g with g | ⟨q, ys, h1, h2, h3, h4⟩
  · exact .inl g
  · exact .inr ⟨q, ys, h1, h2, s _ _ h3, h4⟩
theorem PlT.it {H : Hp} {v : V} (g : PlT v) : Sh v ∧ ∃ T, Kn H v T := by
  rcases g with ⟨i, rfl⟩ | ⟨l, rfl, h, _⟩
  · exact ⟨trivial, _, .int i⟩
  · exact ⟨by show (mkS l).length ≤ 1000; rw [mkS_len]; exact h, _, .str _⟩
theorem PlT.dat {K : PySem.W.Frag} {H : Hp} {v : V} (g : PlT v) : Dat K H v 19 := by
  rcases g with ⟨i, rfl⟩ | ⟨l, rfl, _, h⟩
  · exact dat_int
  · exact dat_str (strOk_small fun c hc => by have := h c hc; omega)
theorem Item.cg {H : Hp} {x : V} {o : Option (List V)} (g : Item H x o) : Cg H x o := by
  rcases g with ⟨rfl, rfl⟩ | ⟨q, ys, rfl, rfl, h3, h4⟩
  · exact .no .non (by decide)
  · exact .tup h3 fun v hv => (h4 v hv).it
theorem Item.dat {K : PySem.W.Frag} {H : Hp} {x : V} {o : Option (List V)} (g : Item H x o) : Dat K H x 20 := by
  rcases g with ⟨rfl, rfl⟩ | ⟨q, ys, rfl, rfl, h3, h4⟩
  · exact dat_non
  · exact dat_tup (k := 19) (SqT.of h3) fun v hv => (h4 v hv).dat
theorem PlT.s {l : List Nat} (h : l.length ≤ 1000) (k : ∀ c ∈ l, c < 1000) : PlT (.str (mkS l)) := .inr ⟨l, rfl, h, k⟩
theorem FitX.pl {xs : List V} (f : FitX xs) : ∀ v ∈ xs, PlT v := by
  intro v hv
  rcases f with ⟨i, rfl⟩ | ⟨n, i, c, rfl, hn, hs, hc⟩
  · simp only [List.mem_cons, List.not_mem_nil, or_false] at hv
    rcases hv with rfl | rfl
    · exact .s (by decide +kernel) (by decide +kernel)
    · exact .inl ⟨_, rfl⟩
  · simp only [List.mem_cons, List.not_mem_nil, or_false] at hv
    rcases hv with rfl | rfl | rfl
    · exact .s (by omega) hs
    · exact .inl ⟨_, rfl⟩
    · exact .s (by show 1 ≤ 1000; decide) (fun d hd => by rw [List.mem_singleton.mp hd]; have := hc.2; omega)
inductive Items (H : Hp) : List V → List (Option (List V)) → Prop where
  | nil : Items H [] []
  | cons {x : V} {o : Option (List V)} {xs : List V} {os : List (Option (List V))} (h : Item H x o) (t : Items H xs os) : Items H (x :: xs) (o :: os)
theorem Items.same {H H' : Hp} (s : TSame H H') : ∀ {xs : List V} {os : List (Option (List V))}, Items H xs os → Items H' xs os
  | _, _, .nil => .nil
  | _, _, .cons h t => .cons (h.same s) (t.same s)
theorem Items.len {H : Hp} : ∀ {xs : List V} {os : List (Option (List V))}, Items H xs os → xs.length = os.length
  | _, _, .nil => rfl
  | _, _, .cons h t => congrArg Nat.succ t.len
theorem Items.app {H : Hp} : ∀ {xs ys : List V} {os us : List (Option (List V))}, Items H xs os → Items H ys us → Items H (xs ++ ys) (os ++ us)
  | _, _, _, _, .nil, g => g
  | _, _, _, _, .cons h t, g => .cons h (t.app g)
theorem Items.take {H : Hp} : ∀ (n : Nat) {xs : List V} {os : List (Option (List V))}, Items H xs os → Items H (xs.take n) (os.take n)
  | 0, _, _, _ => .nil
  | _ + 1, _, _, .nil => .nil
  | n + 1, _, _, .cons h t => .cons h (t.take n)
theorem Items.drop {H : Hp} : ∀ (n : Nat) {xs : List V} {os : List (Option (List V))}, Items H xs os → Items H (xs.drop n) (os.drop n)
  | 0, _, _, g => g
  | _ + 1, _, _, .nil => .nil
  | n + 1, _, _, .cons h t => t.drop n
theorem Items.get {H : Hp} : ∀ {xs : List V} {os : List (Option (List V))}, Items H xs os → ∀ (i : Nat) x o, xs[i]? = some x → os[i]? = some o → Item H x o
  | _, _, .nil, i, x, o, h, _ => by simp at h
  | _, _, .cons h t, 0, x, o, h1, h2 => by injection h1 with h1; injection h2 with h2; subst h1 h2; exact h
  | _, _, .cons h t, i + 1, x, o, h1, h2 => t.get i x o h1 h2
theorem Items.mem {H : Hp} : ∀ {xs : List V} {os : List (Option (List V))}, Items H xs os → ∀ v ∈ xs, ∃ o, Item H v o
  | _, _, .cons h t, v, hv => by
    rcases List.mem_cons.mp hv with rfl | hv
    · exact ⟨_, h⟩
    · exact t.mem v hv
/-- an odd one: no short text takes it -/
def Bad (o : Option (List V)) : Prop := ∀ z : List Nat, z.length ≤ 99 → stepR z o = none
theorem bad_none : Bad none := fun _ _ => rfl
theorem bad_cut {i : Int} (h : 100 ≤ i) : Bad (some [.str (mkS ("cut" : Str).cps.toList), .int i]) := fun z hz => stepR_cutN fun q => by have := q.2.2; omega
theorem bad_put {y : V} : Bad (some [.str (mkS ("put" : Str).cps.toList), .int (-1), y]) := fun z hz => by
  cases e : letOf y with
  | none => exact stepR_no e
  | some c => exact stepR_else e (fun q => absurd q.2.1 (by decide)) (fun q => absurd q.2.1 (by decide))
theorem bad_turn : Bad (some [.str (mkS ("turn" : Str).cps.toList), .int 0]) := fun z hz => stepR_cutN fun q => absurd q.1 (by decide +kernel)
theorem bad_A : Bad (some [.str (mkS ("put" : Str).cps.toList), .int 0, .str (mkS ("A" : Str).cps.toList)]) := fun z hz => stepR_no (letOf_bad fun c hc h => by
  have e : ("A" : Str).cps.toList = [65] := by decide +kernel
  rw [e] at hc
  injection hc with hc
  subst hc
  exact absurd h.1 (by decide))
def qListOf (K : PySem.W.Frag) : List V → Hp → VK → Prop := fun xs H Q => ∃ p ys, xs = [.ref p] ∧ (SqL K H p ys ∨ SqT K H p ys) ∧ ∀ l, H l = none → Q (.ref l) (upd H l (.lst ys))
theorem c_listOf {X : Cx} : CallR X (.type "list") (qListOf X.K) := call_list_of
section
variable {σ : L2.St} {H : Hp} {te ta : TE} {g : TG} {K : PySem.W.Frag} {nx bk ct : L2.St → Hp → Prop} {rt : VK} {i : Nat}
theorem g_asg (h : te σ H (fun x H1 => g x σ H1 nx)) : tAsg te g (Ends.mk nx rt bk ct) σ H := h
theorem g_listOf {p : Addr} {ys : List V} {Q : VK} (h : SqL K H p ys ∨ SqT K H p ys) (q : ∀ l, H l = none → Q (.ref l) (upd H l (.lst ys))) : qListOf K [.ref p] H Q := ⟨p, ys, rfl, h, q⟩
theorem g_tup2 {p : Addr} {x y : V} {a b : Nat} {Q : L2.St → Hp → Prop} (h : SqT K H p [x, y]) (q : Q ((σ.set a (some x)).set b (some y)) H) : gTup K 2 (gCons (gName a) (gCons (gName b) gNil)) (.ref p) σ H Q :=
  ⟨p, [x, y], rfl, h, rfl, x, [y], rfl, y, [], rfl, rfl, q⟩
theorem g_BM {T : String} {r : V → List V → Hp → VK → Prop} {t : TA} {Q : VK} (h : ta σ H fun x H1 => tyV K T x H1 ∧ t σ H1 fun xs H2 => r x xs H2 Q) : tBM K T r ta t σ H Q := h
theorem g_append {l : Addr} {xs : List V} {y : V} {Q : VK} (h : H l = some (.lst xs)) (hl : xs.length ≤ 100000) (q : Q .non (upd H l (.lst (xs ++ [y])))) : rAppend (.ref l) [y] H Q :=
  ⟨l, xs, y, rfl, rfl, h, Nat.lt_of_le_of_lt hl (by decide), q⟩
end
end N0

/-! B10: a test of the text's own, called within a generator expression: what it leaves as it was. -/
namespace N0
open PySem PySem.Spec PyProof.Rows L2

/-- the written part stands -/
def Bk (base : Heap) (s : Shared) : Prop := ∀ b o, base.get? b = some o → s.heap.get? b = some o
theorem Bk.tok {base : Heap} {s : Shared} (h : Bk base s) (k : Nat) : Bk base { s with toks := k } := h
/-- the names of is_letter's text -/
structure LetSc (sc : Scope) : Prop where
  kind : sc.kind = .function
  co : sc.isCoroutine = false
  gen : sc.isGenerator = false
  cell : ∀ x ∈ sc.names, x.2 ≠ .cell
  thing : sc.names.lookup ("thing" : Str) = some .local
  isi : sc.names.lookup ("isinstance" : Str) = some .globalImplicit
  str : sc.names.lookup ("str" : Str) = some .globalImplicit
  len : sc.names.lookup ("len" : Str) = some .globalImplicit
  lets : sc.names.lookup ("LETTERS" : Str) = some .globalImplicit
structure LetMg (mg : Str → Option Value) : Prop where
  isi : mg "isinstance" = none
  str : mg "str" = none
  len : mg "len" = none
  lets : ∃ t, mg "LETTERS" = some (.str (mkS alpha) t)

section
variable {P : Program} {w : World} {A : Around} {E : Value → Shared → Prop} {K : PySem.W.Frag} {mg : Str → Option Value} {base : Heap} {env : Env} {s : Shared} {Q : Value → Shared → Prop}
/-- a built-in name, read in a def -/
theorem raw_blt {x : Str} {u : Value} {pos : Pos} (M : Mod K mg base) (hk : env.scope.kind = .function) (hg : env.globals = mainGlobals) (hbi : env.builtins = builtinsNs) (hx : env.kindOf x = some .globalImplicit) (hb : Bk base s)
    (hm : mg x = none) (hv : bootBuiltins x = some u) (h : Q u s) (hn : x ≠ "__name__" := by decide) (hd : (x == ("__debug__" : Str)) = false := by decide) : wpAny (model P w) A (eval (.Name x pos) env) Q E s := by
  obtain ⟨mb, h1, h2⟩ := M.blt
  exact Calls.Name_function_global hk hx (Calls.loadGlobal_builtin (by rw [hg]; exact M.glob.keeps hb) hm (by rw [hbi]; exact h1.keeps hb) ((h2 x hn).trans hv) h) hd
/-- a global name, read in a def -/
theorem raw_glob {x : Str} {u : Value} {pos : Pos} (M : Mod K mg base) (hk : env.scope.kind = .function) (hg : env.globals = mainGlobals) (hx : env.kindOf x = some .globalImplicit) (hb : Bk base s)
    (hm : mg x = some u) (h : Q u s) (hd : (x == ("__debug__" : Str)) = false := by decide) : wpAny (model P w) A (eval (.Name x pos) env) Q E s :=
  Calls.Name_function_global hk hx (Calls.loadGlobal_global (by rw [hg]; exact M.glob.keeps hb) hm h) hd
end
section
variable {P : Program} {w : World} {A : Around} {E : Value → Shared → Prop} {K : PySem.W.Frag} {mg : Str → Option Value} {base : Heap} {fd : FuncData} {L f : Addr} {s s0 : Shared} {m : Str → Option Value} {c : Nat} {t : Tok}
/-- is_letter's body, at a text of one sign -/
theorem let_body {p1 p2 p3 p4 p5 p6 p7 p8 p9 p10 p11 p12 p13 p14 : Pos} {j : Nat} {Q : Flow → Shared → Prop} (M : Mod K mg base) (S : LetSc fd.scope) (G : LetMg mg) (hgl : fd.globals = mainGlobals) (hbt : fd.builtins = builtinsNs)
    (hb : Bk base s) (hn : s.heap.Ns L m) (hm : m "thing" = some (.str ⟨#[c]⟩ t))
    (h : ∀ k, Q (.ret (.bool (decide (c ∈ alpha)))) { s with toks := k }) :
    wpAny (model P w) A (execs [.Return (some (.BoolOp .And [.Call (.Name "isinstance" p1) [.Name "thing" p2, .Name "str" p3] [] p4,
      .Compare (.Call (.Name "len" p5) [.Name "thing" p6] [] p7) [.Eq] [.Constant (.int 1) j p8] p9,
      .Compare (.Name "thing" p10) [.In] [.Name "LETTERS" p11] p12] p13)) p14] (callEnv fd L f)) Q E s := by
  obtain ⟨tL, hL⟩ := G.lets
  have ld : ∀ {k : Nat} {p : Pos} {Q : Value → Shared → Prop}, Q (.str ⟨#[c]⟩ t) { s with toks := k } → wpAny (model P w) A (eval (.Name "thing" p) (callEnv fd L f)) Q E { s with toks := k } :=
    fun q => ldc S.kind S.thing (m := m) hn hm q
  have kin : K.In s.heap := M.kin.keeps hb
  have e1 : ∀ {k : Nat} {Q : Value → Shared → Prop}, (∀ tk, Q (.bool true) { s with toks := tk }) → wpAny (model P w) A (call (.builtin "isinstance") [.str ⟨#[c]⟩ t, .type "str"]) Q E { s with toks := k } :=
    fun {k Q} q => PySem.W.kia_one (s := { s with toks := k }) PySem.W.kitx_str kin True.intro rfl (fun z => nomatch z) fun tk => q tk
  refine wpAny_execs_cons (wpAny_Return_some ?_)
  refine BoolOp_and (wpAny_Call_Name_kw (raw_blt M S.kind hgl hbt S.isi hb G.isi (u := .builtin "isinstance") (by decide +kernel) ?_))
  refine PyProof.Rows.callWith_builtin1 (Calls.spliced_cons (ld (k := s.toks) (Calls.spliced_cons (raw_blt M S.kind hgl hbt S.str hb G.str (u := .type "str") (by decide +kernel) (Calls.spliced_nil (e1 fun k1 => ?_))))))
  refine wpAny_truthy_bool ?_
  simp only [if_true]
  refine BoolOp_and (wpAny_Compare1 (wpAny_Call_Name_kw (raw_blt M S.kind hgl hbt S.len hb G.len (u := .builtin "len") (by decide +kernel) ?_)))
  refine PyProof.Rows.callWith_builtin1 (Calls.spliced_cons (ld (Calls.spliced_nil ?_)))
  refine PySem.P.len_str (by show ¬ (((1 : Nat) : Int) ≥ 2 ^ 63); omega) ?_
  refine wpAny_Constant_int (PySem.P.eq_int ?_)
  refine wpAny_truthy_bool ?_
  rw [show (((⟨#[c]⟩ : Str).length : Int) == 1) = true from rfl]
  simp only [if_true]
  refine BoolOp_one (wpAny_Compare1 (ld (raw_glob M S.kind hgl S.lets hb hL (PySem.P.in_str ?_))))
  rw [show (!(Builtin.Str.occurrences (mkS alpha) ⟨#[c]⟩ 0 (mkS alpha).length 1).isEmpty) = decide (c ∈ alpha) from (PySem.StrLaws.found_one (mkS alpha) c).trans (by rw [mkS_cps])]
  exact h _
end
/-- is_letter, called on a text of one sign, makes nothing but its frame -/
structure LetRaw (P : Program) (w : World) (K : PySem.W.Frag) (mg : Str → Option Value) (base : Heap) : Prop where
  ex : ∃ f, mg "is_letter" = some (.ref f) ∧ PySem.W.keepIn K (.ref f) = true ∧ ∀ (A : Around) (E : Value → Shared → Prop) (s : Shared) (c : Nat) (t : Tok), A.depth < recursionLimit → Bk base s →
    wpAny (model P w) A (call (.ref f) [.str ⟨#[c]⟩ t]) (fun y s3 => y = .bool (decide (c ∈ alpha)) ∧ Keeps s s3) E s
section
variable {P : Program} {w : World} {K : PySem.W.Frag} {mg : Str → Option Value} {base : Heap} {st : Stmt}
theorem let_raw {p1 p2 p3 p4 p5 p6 p7 p8 p9 p10 p11 p12 p13 p14 : Pos} {j : Nat} (M : Mod K mg base) (D : At K mg "is_letter" st) (S : LetSc (defScope st)) (G : LetMg mg) (hb : BindN "is_letter" st ["thing"])
    (hbd : defBody st = [.Return (some (.BoolOp .And [.Call (.Name "isinstance" p1) [.Name "thing" p2, .Name "str" p3] [] p4,
      .Compare (.Call (.Name "len" p5) [.Name "thing" p6] [] p7) [.Eq] [.Constant (.int 1) j p8] p9,
      .Compare (.Name "thing" p10) [.In] [.Name "LETTERS" p11] p12] p13)) p14]) : LetRaw P w K mg base := by
  obtain ⟨f, fd, hm, F⟩ := D.ex
  refine ⟨f, hm, F.kp, fun A E s c t hr hbk => ?_⟩
  obtain ⟨oc, od, dV, kV, doc, pm, an, cdv, ct, osl, rfl, lk, hcd, hD, _⟩ := F.ex
  have hdV : dV = .none := by
    rcases hD with ⟨_, e⟩ | ⟨e, _⟩
    · exact e
    · exact absurd rfl e
  subst hdV
  have KX : K.In s.heap := M.kin.keeps hbk
  have hbi := hb kV doc pm an cdv ct [.str ⟨#[c]⟩ t] rfl
  refine wpAny_call (codeAny_call_straight hr (KX _ _ lk) rfl (M.nolimit.keeps hbk) (PySem.W.codeRec_of KX hcd) rfl hbi S.cell ?_ (fun s1 x => ?_) S.co S.gen S.kind)
  · intro y hy
    rcases List.mem_cons.mp hy with rfl | hy
    · exact S.thing
    · cases hy
  · rw [hbd]
    have hb1 : Bk base s1 := fun b o e => x.keep b o (hbk b o e)
    refine let_body (t := t) (c := c) M S G rfl rfl hb1 x.ns rfl fun k => ?_
    exact ⟨rfl, (x.tok k).done⟩
/-- is_letter(x), x the sign that is walked -/
theorem let_elt {x : Str} {p1 p2 p3 : Pos} {A : Around} {E : Value → Shared → Prop} {env : Env} {s : Shared} {m : Str → Option Value} {c : Nat} {t : Tok} (M : Mod K mg base) (L : LetRaw P w K mg base)
    (hk : env.scope.kind = .function) (hg : env.globals = mainGlobals) (hx : env.scope.names.lookup x = some .local) (hl : env.scope.names.lookup ("is_letter" : Str) = some .globalImplicit) (hr : A.depth < recursionLimit)
    (hb : Bk base s) (hn : s.heap.Ns env.locals m) (hm : m x = some (.str ⟨#[c]⟩ t)) (hd : (x == ("__debug__" : Str)) = false := by decide) :
    wpAny (model P w) A (eval (.Call (.Name "is_letter" p1) [.Name x p2] [] p3) env) (fun y s3 => y = .bool (decide (c ∈ alpha)) ∧ Keeps s s3) E s := by
  obtain ⟨f, hmf, hkf, h⟩ := L.ex
  refine wpAny_Call_Name_kw (raw_glob M hk hg hl hb hmf ?_)
  refine PySem.W.callWith_K (h₀ := base) M.kin hkf (Calls.spliced_cons (wpAny_Name (wpAny_loadName_local hk hx hn hm ?_) hd))
  exact Calls.spliced_nil ⟨M.kin.keeps hb, h A E s c t hr hb⟩
end
/-! ### a code object's table, held by what is true of it: nothing is said of how it grows -/
def tabO (a : Addr) : HO := .ext fun h => ∃ ps : Array Value, h.get? a = some { cls := .none, data := .fields ps } ∧ TriplesOk ps.toList
def Tb (H : Hp) (a : Addr) : Prop := H a = some (tabO a)
theorem tabO_ok {P : Program} {w : World} {H : Hp} {h : Heap} {a : Addr} {ps : Array Value} (e : h.get? a = some { cls := .none, data := .fields ps }) (t : TriplesOk ps.toList) : ObjOk P w H h a (tabO a) :=
  ⟨⟨ps, e, t⟩, ⟨_, e⟩, fun h1 h2 ⟨qs, e1, t1⟩ k => ⟨qs, k _ e1, t1⟩⟩
theorem Tb.at {P : Program} {w : World} {H : Hp} {h : Heap} {a : Addr} (hok : HOk P w H h) (hT : Tb H a) : ∃ ps : Array Value, h.get? a = some { cls := .none, data := .fields ps } ∧ TriplesOk ps.toList :=
  (show ObjOk P w H h a (tabO a) from hok a _ hT).1
theorem Tb.upd {H : Hp} {a b : Addr} {o : HO} (hT : Tb H a) (h : H b = none) : Tb (upd H b o) a := by
  unfold Tb
  rw [upd_ne (fun z => by rw [← z, hT] at h; cases h)]
  exact hT
section
variable {X : Cx} {pins : List (Addr × Obj)} {σ : L2.St} {H : Hp} {s : Shared}
theorem inv_tb {a : Addr} {ps : Array Value} {h' : Heap} {g' : Array GenState} {d' : Drawn} {t' : Nat} (I : Inv X pins σ H s) (hT : Tb H a) (k : ∀ b o, b ≠ a → s.heap.get? b = some o → h'.get? b = some o)
    (hm : h'.get? a = some { cls := .none, data := .fields ps }) (ht : TriplesOk ps.toList) (hg : AllBare g') : Inv X pins σ H { s with heap := h', gens := g', drawn := d', toks := t' } := by
  have ne : ∀ b, H b = none → b ≠ a := fun b e z => by rw [z, hT] at e; cases e
  refine I.step (g' := g') (d' := d') (ch := []) (fun b hb => by cases hb) (fun b o _ _ _ e n => k b o (ne b n) e) (fun b o _ _ _ e n => ⟨o.slots, k b o (ne b n) e⟩)
    (fun b o _ e n => n) (fun b o _ e => ?_) (fun b xs e => e) (fun b o u e => e) (fun b qs e => ⟨#[], by simpa using e⟩) (fun m hn => ?_) (fun b u e => ?_) hg
  · by_cases hb : b = a
    · exact ⟨_, hb ▸ hm⟩
    · exact ⟨o, k b o hb e⟩
  · obtain ⟨ob, es, ep, ho, r⟩ := hn
    exact ⟨ob, es, ep, k _ ob (ne _ I.free) ho, r⟩
  · by_cases hb : b = a
    · subst hb
      rw [hT] at e
      injection e with e
      subst e
      exact tabO_ok hm ht
    · refine (I.hok b u e).stay (fun d v hd q => k d v (fun z => ?_) q) (fun d q => q) fun d xs q => q
      rcases hd with y | y
      · exact hb (y.symm.trans z)
      · rw [z, hT] at y
        cases y
end
end N0

/-! B11: all(f(x) for x in a text), f a def of the text. -/
namespace N0
open PySem PySem.Spec PyProof.Rows L2
section
variable {X : Cx} {pins : List (Addr × Obj)} {σ : L2.St} {H : Hp} {s : Shared}
/-- the element: a test of the sign c, within the bounds of the call -/
def SignTest (X : Cx) (scope : Scope) (x : Str) (elt : Expr) (pb : Nat → Bool) : Prop :=
  ∀ (env : Env) (A : Around) (E : Value → Shared → Prop) (c : Nat) (t : Tok) (s : Shared) (m : Str → Option Value), env.scope = scope → env.globals = mainGlobals → A.handled = none → A.depth ≤ X.A.depth + 1 → Mod X.K X.mg X.base → Bk X.base s → s.heap.Ns env.locals m → m x = some (.str ⟨#[c]⟩ t) →
    wpAny (model X.prog X.w) A (eval elt env) (fun y s3 => y = .bool (pb c) ∧ Keeps s s3) E s
/-- what a generator over the signs of z yields, its j-th value -/
def Yields (pb : Nat → Bool) (z : Str) (j : Nat) (y : Value) : Prop := ∃ d, z.cps[j]? = some d ∧ y = .bool (pb d)
/-- a generator over the signs of z, ready; of what it does nothing is seen -/
structure Ready1 (X : Cx) (pins : List (Addr × Obj)) (σ : L2.St) (H : Hp) (z : Str) (pb : Nat → Bool) (g : Addr) (s5 : Shared) : Prop where
  ex : ∃ own wrt gs F Sg, WalksS X.prog X.w X.A.in1 g own wrt gs z.cps.size F Sg ∧ Sg 0 s5 ∧ TruthOf X.prog X.w X.A.in1 F (GxR.trF pb z.cps.toList) ∧ ∀ s', Moved wrt gs s5 s' → Inv X pins σ H s'
/-- the expression's code object: found in the table, or made and put there; the table stays well formed -/
theorem code_there {M : Model} {A : Around} {E : Value → Shared → Prop} {env : Env} {c T : Addr} {ps : Array Value} {pos : Pos} {q : Str} {sc : Scope} {s : Shared} {G : Value → Shared → Prop} (hc : env.code = .ref c) (cd : PySem.W.CodeHd s.heap c T)
    (eT : s.heap.get? T = some { cls := .none, data := .fields ps }) (ok : TriplesOk ps.toList)
    (h : ∀ (code : Value) (h3 : Heap) (tk : Nat) (qs : Array Value), Heap.ExtBut T s.heap h3 → s.heap.objs.size ≤ h3.objs.size → h3.get? T = some { cls := .none, data := .fields qs } → TriplesOk qs.toList → G code { s with heap := h3, toks := tk }) :
    wpAny M A (genexprCode env pos q sc) G E s := by
  cases hf : codeAmong pos ps.toList with
  | some cv => exact wpAny_genexprCode_hit hc (cd.code eT ok) hf (h cv s.heap s.toks ps (Heap.ExtBut.refl _ _) (Nat.le_refl _) eT ok)
  | none =>
    refine wpAny_genexprCodeX hc (cd.code eT ok) (cd.tab eT) hf fun c' h' tk hx hge hlt co _ tab _ => h _ h' tk _ hx (Nat.le_trans hge (Nat.le_of_lt hlt)) tab.2 ?_
    obtain ⟨_, _, _, _, _, _, _, _, _, _, _, _, _, _, _, _, _, _, _, r, _⟩ := co
    exact r
variable {c T : Addr} {elt iter : Expr} {x : Str} {px p pos gpos : Pos} {scope : Scope} {pb : Nat → Bool} {te : TE} {k : Nat}
theorem gen1 {G : Value → Shared → Prop} {R : Str → Hp → Prop} (hr : Room k X.A) (TB : GxR.TabB X.base X.mg c T) (hcode : X.env.code = .ref c) (gs : GxR.GenS X.env scope x) (hi : PE X iter te) (hel : SignTest X scope x elt pb)
    (hfold : ∀ u, genFold iter X.env u = pure u) (I : Inv X pins σ H s) (h : te σ H fun v H1 => ∃ z : Str, v = .str z ∧ Tb H1 T ∧ R z H1) (hQ : ∀ z H1 g s5, R z H1 → Ready1 X pins σ H1 z pb g s5 → G (.ref g) s5) :
    wpAny (model X.prog X.w) X.A (eval (.GeneratorExp elt [⟨.Name x px, iter, [], 0⟩] scope gpos) X.env) G X.xe s := by
  refine wpAny_GeneratorExp_walksQD hr.hd gs.co (closure_ok gs.free) gs.cell gs.dot gs.loc gs.kind (Nat.lt_of_le_of_lt (Nat.le_succ _) (by have := hr.dp; omega : X.A.depth + 1 < recursionLimit)) ?_ hfold
  refine thn (hi.run pins s σ H _ I h) fun u s1 ⟨v, H1, J1, ru, z, ev, hT, rz⟩ => ?_
  subst ev
  obtain ⟨tz, rfl⟩ := (show ∃ tz, u = Value.str z tz from ru)
  obtain ⟨ps, eT, okT⟩ := hT.at J1.hok
  refine wpAny_pyIter_str fun it Sw Wk hSw => ?_
  -- the iterator is the newest object, above all that stood and apart from the table
  have more : ∀ b ob, s1.heap.get? b = some ob → (s1.heap.push it).get? b = some ob := fun _ _ e => Heap.get?_push_of_some _ e
  have ltT := Heap.lt_size eT
  have stat : cStatics < s1.heap.objs.size ∧ cStatics ≠ T := by
    obtain ⟨_, hns, _⟩ := J1.nolimit
    obtain ⟨oc, es, ep, ho, hd, _⟩ := id hns
    exact ⟨hns.lt, fun e => by rw [e, eT] at ho; injection ho with ho; rw [← ho] at hd; cases hd⟩
  have baseT : ∀ b ob, X.base.get? b = some ob → b ≠ T := fun b ob e y => by
    have n := (J1.bs b ob e).2
    rw [y, hT] at n; cases n
  refine ⟨J1.nolimit.push it, code_there hcode (TB.code.keeps fun b ob e => more b ob (J1.bk b ob e)) (more _ _ eT) okT fun code h3 tk qs hx hsz eq okq => ?_⟩
  have up : ∀ b ob, b ≠ T → s1.heap.get? b = some ob → h3.get? b = some ob := fun b ob y e => hx b ob y (more b ob e)
  have low : s1.heap.objs.size < h3.objs.size := Nat.lt_of_lt_of_le (by rw [Heap.size_push]; exact Nat.lt_succ_self _) hsz
  obtain ⟨bm, ob, n1, n2, n3, n4, n5, n6, n7, n8⟩ := id TB.bm
  refine wpAny_builtinsFor (by rw [J1.ok.glob]; exact ((J1.mod.glob.keeps J1.bk).push it).extBut hx TB.gP) n1 n2 (up _ _ n4 (J1.bk _ _ n5)) n6 n7 n8 ?_
  refine ⟨_, [s1.heap.objs.size], [s1.heap.objs.size], z.cps.size, SignAt z, Sw, fun _ => true, Yields pb z, rfl, Wk, ?st, fun b hb => by rw [List.mem_singleton.mp hb]; exact low, (J1.nolimit.push it).extBut hx stat.2, fun y => Nat.lt_irrefl _ (List.mem_singleton.mp y ▸ stat.1), ?quiet, ?rest⟩
  case st =>
    refine (Wk X.A hr.hd).frame _ _ _ hSw fun b hb ob e => hx b ob (fun y => ?_) e
    rw [List.mem_singleton.mp hb] at y
    exact Nat.lt_irrefl _ (y ▸ ltT)
  case quiet =>
    refine fun top hup => ⟨fun A' E' i v s2 m2 _ _ _ _ _ _ _ => ?_, fun A' E' i v s2 m2 hA hD _ hv _ hn hm hk => ?_⟩
    · rw [List.forIn_nil]
      exact wpAny_pure ⟨rfl, s2.heap, s2.toks, rfl, fun _ _ e => e⟩
    · obtain ⟨d, td, hd, rfl⟩ := hv
      refine wpAny_mono (hel _ A' E' d td s2 m2 rfl J1.ok.glob hA hD J1.mod (fun b ob e => ?_) hn hm) (fun y s3 r => ⟨⟨d, hd, r.1⟩, r.2⟩) fun _ _ e => e
      have here := up b ob (baseT b ob e) (J1.bk b ob e)
      refine hk b (List.mem_range.mpr (Heap.lt_size here)) (fun y => ?_) ob (hup b ob here)
      exact Nat.lt_irrefl _ (List.mem_singleton.mp y ▸ Heap.lt_size (J1.bk b ob e))
  case rest =>
    intro g h5 t5 gst bare _ _ k5 Wg at5
    rw [GxR.passing_true, List.length_range] at Wg
    have yield : ∀ {j : Nat} {y : Value}, (∃ i, (List.range z.cps.size)[j]? = some i ∧ Yields pb z i y) → Yields pb z j y := fun ⟨i, e, w⟩ => by
      obtain ⟨hj, ej⟩ := List.getElem?_eq_some_iff.mp e
      rw [List.getElem_range] at ej
      rw [ej]; exact w
    refine hQ z H1 g _ rz ⟨_, _, _, _, _, Wg.in4_1, at5, fun j y sj Qj Ej hy hQj => ?_, fun s' mv => ?_⟩
    · obtain ⟨d, hd, rfl⟩ := yield hy
      rw [GxR.trF_some (show z.cps.toList[j]? = some d by rw [Array.getElem?_toList, hd])] at hQj
      exact wpAny_truthy_bool hQj
    · have old : ∀ b ob, s1.heap.get? b = some ob → b ∉ [h3.objs.size, s1.heap.objs.size] := fun b ob e hb => by
        have hl := Heap.lt_size e
        rcases List.mem_cons.mp hb with y | hb
        · exact Nat.lt_irrefl _ (Nat.lt_trans low (y ▸ hl))
        · exact Nat.lt_irrefl _ (List.mem_singleton.mp hb ▸ hl)
      have J := inv_tb (h' := s'.heap) (g' := s'.gens) (d' := s'.drawn) (t' := s'.toks) J1 hT (fun b ob y e => mv.heap b ob (old b ob e) (k5 b ob (up b ob y e))) (mv.heap T _ (old T _ eT) (k5 T _ eq)) okq (AllBare.movedS (J1.bare.push bare) mv)
      exact GxR.sh_eta s1 s' mv.os ▸ J
/-- all(test for x in e), e a text; the table at T is held -/
def tAll1 (T : Addr) (pb : Nat → Bool) (te : TE) : TE := fun σ H Q => te σ H fun v H1 => ∃ z : Str, v = .str z ∧ Tb H1 T ∧ Q (.bl (z.cps.toList.all pb)) H1
theorem pe_all1 (hr : Room k X.A) (hg : Gl X "all") (hm : X.mg "all" = none) (TB : GxR.TabB X.base X.mg c T) (hcode : X.env.code = .ref c) (gs : GxR.GenS X.env scope x) (hi : PE X iter te) (hel : SignTest X scope x elt pb) (hfold : ∀ u, genFold iter X.env u = pure u) :
    PE X (.Call (.Name "all" p) [.GeneratorExp elt [⟨.Name x px, iter, [], 0⟩] scope gpos] [] pos) (tAll1 T pb te) :=
  ⟨fun _ _ _ _ Q I h => wpAny_Call_Name_kw (ld_blt I hg hm (u := .builtin "all") (by decide +kernel) (PyProof.Rows.callWith_builtin1 (Calls.spliced_cons
    (gen1 (R := fun z H1 => Q (.bl (z.cps.toList.all pb)) H1) hr TB hcode gs hi hel hfold I h fun z H1 g s5 rz ⟨own, wrt, gst, F, Sg, Wg, at5, tr, back⟩ =>
      Calls.spliced_nil (call_all_walkS (Wg.self 0 _ _ _ at5 ⟨g, own, wrt, gst, _, F, Sg, _, rfl, Wg, at5, tr, fun s' mv => ⟨.bl _, H1, back s' mv, rfl, by rw [GxR.all_signs z pb]; exact rz⟩⟩)))) rfl rfl))⟩
theorem gens_of {env : Env} {scope : Scope} {x : Str} (h1 : scope.kind = .function) (h2 : scope.isCoroutine = false) (h3 : ∀ y ∈ scope.names, y.2 ≠ .cell) (h4 : scope.names.lookup (".0" : Str) = some NameKind.local) (h5 : scope.names.lookup x = some .local)
    (h6 : ∀ y ∈ scope.names, y.2 ≠ .free) : GxR.GenS env scope x := ⟨h1, h2, h3, h4, h5, fun y hy e => absurd e (h6 y hy)⟩
end
end N0

/-! B12: a def whose code object's table is held, from the head to the law's end. -/
namespace N0
open PySem PySem.Spec PyProof.Rows L2
/-- the code object of the def called x is c -/
def CodeAt (K : PySem.W.Frag) (mg : Str → Option Value) (x : Str) (c : Addr) : Prop := ∀ (f : Addr) (oc : Value) (od : Option Addr) (fd : FuncData) (osl : Array (Option Value)), mg x = some (.ref f) → K.lookup f = some ⟨oc, od, .func fd, osl⟩ → fd.code = .ref c
section
variable {P : Program} {w : World} {K : PySem.W.Frag} {mg : Str → Option Value} {base : Heap} {x : Str} {st : Stmt} {N ps : List Str} {sp : Sp} {k : Nat} {c : Addr}
/-- as At.ok, the body runs with the code object c -/
theorem At.okT (A : At K mg x st) (hc : CodeAt K mg x c) (S : FnScope N ps (defScope st)) (hb : BindN x st ps) (len : ∀ vs H Q E, sp vs H Q E → vs.length = ps.length)
    (hbody : ∀ (f : Addr) (A : Around) (outer : List Env) (s : Shared) (H : Hp) (vs : List V) (Q : VK) (E : XK), Room k (A.deeper (envOfC x (defScope st) s.heap.objs.size f (.ref c))) → sp vs H Q E →
      ∃ t, PSs (cxOf CX0 P w K mg base N x (defScope st) f (.ref c) A outer s H E).nox (defBody st) t ∧ t { nx := fun _ H' => Q .non H', rt := Q } (start N vs) H) : Dd P w K mg base CX0 (k + 1) x ps sp := by
  obtain ⟨f, fd, hm, F⟩ := A.ex
  have F0 := F
  obtain ⟨oc, od, dV, kV, doc, pm, an, cdv, ct, osl, rfl, lk, hcd, _, _⟩ := F.ex
  have e : cdv = .ref c := hc f oc od _ osl hm lk
  subst e
  refine ⟨f, _, hm, F0.kp, F0.bindsN hb, fn_of lk hcd S len fun A outer s H vs Q E hr h => ?_, fn_there F0⟩
  obtain ⟨t, h1, h2⟩ := hbody f A outer s H vs Q E hr h
  exact ⟨t, h1.nox, h2⟩
/-- a promise that holds the table, where the table stands empty at the entry -/
theorem retab {f T : Addr} {fd : FuncData} (F : FnOk P w K mg base CX0 k f fd ps sp) : FnOk P w K mg base CX0 k f fd ps (fun vs H Q E => H T = some (.tbl #[]) ∧ sp vs (upd H T (tabO T)) (fun v H' => Tb H' T ∧ ∀ H2, Q v H2) E) := by
  refine ⟨fun vs H Q E h => F.len _ _ _ _ h.2, fun A outer s H args us vs Q E hr e0 hb r ⟨hT, hsp⟩ => ?_⟩
  have ne : ∀ b, H b = none → b ≠ T := fun b e z => by rw [z, hT] at e; cases e
  have hTs : s.heap.get? T = some { cls := .none, data := .fields #[] } := e0.hok T _ hT
  have off : ∀ {b : Addr}, b ≠ T → upd H T (tabO T) b = H b := fun h => upd_ne h
  have up : ∀ {b : Addr} {u : HO}, H b = some u → (∀ q, u ≠ .tbl q) → upd H T (tabO T) b = some u := fun {b u} e q => by
    rw [off (fun z => by rw [z, hT] at e; exact q _ (Option.some.inj e).symm)]
    exact e
  have e1 : Env0 P w K mg base A outer s (upd H T (tabO T)) := by
    refine { e0 with bs := fun b o e => ⟨(e0.bs b o e).1, ?_⟩, frf := fun b hb => ?_, hok := fun b u e => ?_ }
    · rw [off (ne b (e0.bs b o e).2)]; exact (e0.bs b o e).2
    · rw [off (ne b (e0.frf b hb))]; exact e0.frf b hb
    · by_cases hb : b = T
      · subst hb
        rw [upd_same] at e
        injection e with e
        subst e
        exact tabO_ok hTs (by first | trivial | exact True.intro | decide)
      · rw [off hb] at e
        exact (e0.hok b u e).stay (fun _ _ _ q => q) (fun d q => up q fun _ z => nomatch z) fun d xs q => up q fun _ z => nomatch z
  refine codeAny_mono (F.run A outer s _ args us vs _ E hr e1 hb r hsp) fun r s' hq => ?_
  cases r with
  | error e => exact hq
  | ok fl =>
    cases fl with
    | next => exact hq
    | brk => exact hq
    | cont => exact hq
    | ret u =>
      obtain ⟨v, H', os, bare, un, hok, rv, hT', q⟩ := hq
      obtain ⟨ps', hps, _⟩ := Tb.at hok hT'
      have off' : ∀ {b : Addr}, b ≠ T → upd H' T (.tbl ps') b = H' b := fun h => upd_ne h
      have up' : ∀ {b : Addr} {u : HO}, H' b = some u → u ≠ tabO T → upd H' T (.tbl ps') b = some u := fun {b u} e q => by
        rw [off' (fun z => by rw [z, hT'] at e; exact q (Option.some.inj e).symm)]
        exact e
      refine ⟨v, upd H' T (.tbl ps'), os, bare, ?_, fun b u e => ?_, rv, q _⟩
      · refine ⟨fun b o e n => un.keep b o e (by rw [off (ne b n)]; exact n), fun b o e n => un.slot b o e (by rw [off (ne b n)]; exact n), fun b o e n hx => ?_, un.there, fun b xs e => ?_, fun b o u e => ?_, fun b qs e => ?_⟩
        · rw [off' (ne b n)]
          exact un.free b o e (by rw [off (ne b n)]; exact n) hx
        · exact up' (un.tups b xs (up e fun _ z => nomatch z)) (fun z => nomatch z)
        · exact up' (un.frzs b o u (up e fun _ z => nomatch z)) (fun z => nomatch z)
        · by_cases hb : b = T
          · subst hb
            rw [hT] at e
            injection e with e
            injection e with e
            subst e
            exact ⟨ps', by rw [upd_same]; simp⟩
          · rw [off' hb]
            exact un.tbls b qs (by rw [off hb]; exact e)
      · by_cases hb : b = T
        · subst hb
          rw [upd_same] at e
          injection e with e
          subst e
          exact hps
        · rw [off' hb] at e
          exact (hok b u e).stay (fun _ _ _ q => q) (fun d q => up' q fun z => nomatch z) fun d xs q => up' q fun z => nomatch z
end
/-! ### the head's facts, the empty tables left out -/
def obsT (fa : List He.Fa) (fn : List He.DefD) (tf : List He.Defn) (ex : PySem.W.Frag → Bool) (g : Addr → Option Obj) (K : PySem.W.Frag) : He.AlD := ((He.obsD fa fn K).1 && (ex K && He.tabsB g tf K), (He.obsD fa fn K).2)
def obsTG (n : Nat) (fa : List He.Fa) (fn : List He.DefD) (tf : List He.Defn) (ex : PySem.W.Frag → Bool) (g : Addr → Option Obj) : He.AlD := obsT fa fn tf ex g (He.frT g (He.asD g n))
/-- what is known of the table of the def p -/
structure TabAt (K : PySem.W.Frag) (h : Heap) (p : He.Defn) : Prop where
  hd : PySem.W.codeHdIn K (He.cT K p).1 (He.cT K p).2 = true
  out : K.lookup (He.cT K p).2 = none
  empty : h.get? (He.cT K p).2 = some { cls := .none, data := .fields #[] }
theorem tabAt_of {g : Addr → Option Obj} {as : List Addr} {h : Heap} {tf : List He.Defn} (hg : ∀ a o, g a = some o → h.get? a = some o) (e : He.tabsB g tf (He.frT g as) = true) : ∀ p ∈ tf, TabAt (He.frT g as) h p := by
  intro p hp
  have e1 := List.all_eq_true.mp e p hp
  obtain ⟨h1, h2⟩ := Bool.and_eq_true_iff.mp e1
  cases q : g (He.cT (He.frT g as) p).2 with
  | none => rw [q] at h2; cases h2
  | some o =>
    rw [q] at h2
    exact ⟨h1, He.frT_none q h2, by rw [hg _ _ q, He.emptyTab_eq h2]⟩
def hookT (n : Nat) (fa : List He.Fa) (fn : List He.DefD) (tf : List He.Defn) (ex : PySem.W.Frag → Bool) : PySem.W.Hook where
  α := He.AlD
  obs := fun s => obsTG n fa fn tf ex s.heap.get?
  val := fun _ => He.valD fn
  says := fun _ h => ∃ K : PySem.W.Frag, K.In h ∧ He.SaysD fa fn K ∧ ex K = true ∧ ∀ p ∈ tf, TabAt K h p
  of := fun w s e => by
    refine ⟨He.frT s.heap.get? (He.asD s.heap.get? n), He.frT_in, ?_⟩
    obtain ⟨h1, h2⟩ := Prod.mk.inj (show ((He.obsD fa fn _).1 && (ex _ && He.tabsB _ tf _), (He.obsD fa fn _).2) = (true, fn.map He.DefD.val) from e)
    obtain ⟨h3, h4⟩ := Bool.and_eq_true_iff.mp h1
    obtain ⟨h5, h6⟩ := Bool.and_eq_true_iff.mp h4
    exact ⟨Prod.ext h3 h2, h5, tabAt_of (fun _ _ q => q) h6⟩
  keeps := fun _ _ _ ⟨K, kin, c, e, t⟩ k => ⟨K, kin.keeps k, c, e, fun p hp => ⟨(t p hp).hd, (t p hp).out, k _ _ (t p hp).empty⟩⟩
theorem obsTG_eq {n : Nat} {fa : List He.Fa} {fn : List He.DefD} {tf : List He.Defn} {ex : PySem.W.Frag → Bool} {g : Addr → Option Obj} {s : Shared} (h : ∀ a, g a = s.heap.get? a) : obsTG n fa fn tf ex g = (hookT n fa fn tf ex).obs s := by
  rw [show g = s.heap.get? from funext h]; rfl
/-- the code object of a def of the text -/
theorem codeAt_of {K : PySem.W.Frag} {h : Heap} {mg : Str → Option Value} {x : Str} (hm : mg x = some (.ref (He.fAd K (x, none)))) (hd : PySem.W.codeHdIn K (He.cT K (x, none)).1 (He.cT K (x, none)).2 = true)
    (hr : ∀ oc od fd osl, K.lookup (He.fAd K (x, none)) = some ⟨oc, od, .func fd, osl⟩ → ∃ c, fd.code = .ref c) : CodeAt K mg x (He.cT K (x, none)).1 := by
  intro f oc od fd osl hf lk
  rw [hm] at hf
  injection hf with hf
  injection hf with hf
  subst hf
  obtain ⟨c, hc⟩ := hr _ _ _ _ lk
  rw [hc]
  exact congrArg Value.ref (He.codeOf_eq lk hc).symm
end N0

/-! B13: what a word is. -/
namespace N0
open PySem PySem.Spec PyProof.Rows L2
/-- a word: at most 24 letters, each from a to z -/
def wordB : V → Bool
  | .str z => decide (z.length ≤ 24) && z.cps.toList.all fun c => decide (c ∈ alpha)
  | _ => false
theorem wordB_str (l : List Nat) : wordB (.str (mkS l)) = (decide (l.length ≤ 24) && l.all fun c => decide (c ∈ alpha)) := by
  show (decide ((mkS l).length ≤ 24) && (mkS l).cps.toList.all fun c => decide (c ∈ alpha)) = _
  rw [mkS_len, mkS_cps]
theorem wordB_wd {l : List Nat} (h : l.length ≤ 24) (w : Wd l) : wordB (.str (mkS l)) = true := by
  rw [wordB_str, decide_eq_true h, Bool.true_and, List.all_eq_true]
  exact fun c hc => decide_eq_true ((alpha_mem c).mpr (w c hc))
theorem wordB_kn {H : Hp} {y : V} {T : String} (k : Kn H y T) (h : T ≠ "str") : wordB y = false := by
  cases k <;> first | rfl | exact absurd rfl h
theorem depth1 {k : Nat} {A : Around} (hr : Room k A) : A.depth + 1 < recursionLimit := by have := hr.dp; omega
def spIsWord (T : Addr) : Sp := fun vs H Q _ => ∃ (x : V) (U : String), vs = [x] ∧ Kn H x U ∧ Sh x ∧ Tb H T ∧ Q (.bl (wordB x)) H
section
variable {K : PySem.W.Frag} {σ : L2.St} {H : Hp} {Q : VK} {P : Addr}
theorem g_lc {wi : TI} {g : TG} {tt : TT} {te : TE} {vs : List Nat}
    (h : wi σ H fun J H1 => ∀ D, H1 D = none → ∃ W : Nat → Nat → Hp → Prop, (∃ m, W 0 m (upd H1 D (.lst []))) ∧ ∀ i m H, W i m H → (J.stop i H ∧ Q (.ref D) H) ∨ (J.go i H ∧ ∃ Nx : Hp → Prop, (∀ H', Nx H' → ∃ m', m' < m ∧ W (i + 1) m' H') ∧
      ∀ x H', J.yld i H x H' → g x (wipe σ vs) H' fun σ2 H2 => wipe σ2 vs = wipe σ vs ∧ tt σ2 H2 fun b H3 => if b = true then te σ2 H3 fun y H4 => ∃ acc, H4 D = some (.lst acc) ∧ acc.length < sizeLine ∧ Nx (upd H4 D (.lst (acc ++ [y]))) else Nx H3)) :
    tLc wi g tt te vs σ H Q := h
theorem g_yes {A B : Hp → Prop} (h : A H) : tYes σ H (fun b H3 => if b = true then A H3 else B H3) := by
  show if true = true then A H else B H
  rw [if_pos rfl]; exact h
theorem g_tgt {i : Nat} {v : V} {A : L2.St → Prop} {B : L2.St → Hp → Prop} (h : A (σ.set i (some v))) (k : B (σ.set i (some v)) H) : gName i v σ H (fun σ2 H2 => A σ2 ∧ B σ2 H2) := ⟨h, k⟩
theorem g_iStr {R : It → Hp → Prop} {l : List Nat} {i : Nat} (h : σ[i]? = some (some (.str (mkS l)))) (q : R (Its (mkS l)) H) : iStr (tVar i) σ H R := ⟨_, h, _, rfl, q⟩
theorem g_all1 {pb : Nat → Bool} {i : Nat} {l : List Nat} (h : σ[i]? = some (some (.str (mkS l)))) (hT : Tb H P) (q : Q (.bl (l.all pb)) H) : tAll1 P pb (tVar i) σ H Q :=
  ⟨_, h, mkS l, rfl, hT, by rw [mkS_cps]; exact q⟩
theorem its_at {l : List Nat} {i c : Nat} (h : (mkS l).cps[i]? = some c) : l[i]? = some c := by
  rw [← h]; simp [mkS]
theorem ones_len (l : List Nat) : ((l.map fun c => mkS [c]).map (·.length)).sum = l.length := by
  induction l with
  | nil => rfl
  | cons a r ih => simp only [List.map_cons, List.sum_cons, List.length_cons, ih, mkS_len, List.length_nil]; omega
end
/-! ### things that are no texts, in a menu -/
def NG (H : Hp) (v : V) : Prop := ∃ T, Kn H v T ∧ T ≠ "str"
theorem NG.same {H H' : Hp} {v : V} (g : NG H v) (s : Same H H') : NG H' v := let ⟨T, k, h⟩ := g; ⟨T, k.same s, h⟩
def NgE (te : TE) (σ : L2.St) (H : Hp) : Prop := ∀ H1, Same H H1 → ∀ Q : VK, (∀ v H2, Same H1 H2 → NG H2 v → Q v H2) → te σ H1 Q
def NgA (ta : TA) (σ : L2.St) (H : Hp) (n : Nat) : Prop := ∀ H1, Same H H1 → ∀ Q : List V → Hp → Prop, (∀ vs H2, Same H1 H2 → vs.length = n → (∀ v ∈ vs, NG H2 v) → Q vs H2) → ta σ H1 Q
section
variable {σ : L2.St} {H : Hp} {te : TE} {ta : TA} {v : V} {i n : Nat}
theorem ngE_c {T : String} (g : ∀ H, Kn H v T) (hT : T ≠ "str") : NgE (tC v) σ H := fun H1 s Q q => q v H1 (Same.refl _) ⟨_, g H1, hT⟩
theorem ngE_non : NgE (tC .non) σ H := ngE_c (fun _ => .non) (by decide)
theorem ngE_int {k : Int} : NgE (tC (.int k)) σ H := ngE_c (fun _ => .int k) (by decide)
theorem ngE_bl {k : Bool} : NgE (tC (.bl k)) σ H := ngE_c (fun _ => .bl k) (by decide)
theorem ngE_neg {k : Int} : NgE (tUn (rU fun i => .int (-i)) (tC (.int k))) σ H := fun H1 s Q q => ⟨k, rfl, q _ H1 (Same.refl _) ⟨_, .int _, by decide⟩⟩
theorem ngE_lst (h : ItA ta σ H n) (hn : n ≤ 1000) : NgE (tLst ta) σ H := fun H1 s Q q => h H1 s _ fun vs H2 s2 hl g => ⟨by rw [hl]; exact small_line (by omega), fun p hp => q _ _ (s2.trans (Same.new hp)) ⟨_, .lst upd_same, by decide⟩⟩
theorem ngE_tup (h : ItA ta σ H n) (hn : n ≤ 1000) : NgE (tTup ta) σ H := fun H1 s Q q => h H1 s _ fun vs H2 s2 hl g => ⟨by rw [hl]; exact small_line (by omega), fun p hp => q _ _ (s2.trans (Same.new hp)) ⟨_, .tup upd_same, by decide⟩⟩
theorem ngE_dK : NgE tDNewK σ H := fun H1 s Q q p hp => q _ _ (Same.new hp) ⟨_, .dK upd_same, by decide⟩
theorem ngE_disp {z : Str} {k : Int} : NgE (tDisp [(tC (.str z), tC (.int k))]) σ H := fun H1 s Q q p hp =>
  ⟨upd_same, [(.inr z, .int k)], rfl, (by show 1 ≤ 15; decide), by rw [upd_upd]; exact q _ _ (Same.new hp) ⟨_, .dK upd_same, by decide⟩⟩
theorem ngA_nil : NgA tNil σ H 0 := fun H1 s Q q => q [] H1 (Same.refl _) rfl fun _ h => nomatch h
theorem ngA_cons (h : NgE te σ H) (hr : NgA ta σ H n) : NgA (tCons te ta) σ H (n + 1) := fun H1 s Q q => h H1 s _ fun v H2 s2 g => hr H2 (s.trans s2) _ fun vs H3 s3 hl gs =>
  q (v :: vs) H3 (s2.trans s3) (by rw [List.length_cons, hl]) fun u hu => by
    rcases List.mem_cons.mp hu with rfl | hu
    · exact g.same s3
    · exact gs u hu
theorem ngL (h : NgA ta σ H n) (hn : n ≤ 1000) {Q : VK} (q : ∀ p vs H2, Same H H2 → H p = none → H2 p = some (.lst vs) → vs.length = n → (∀ v ∈ vs, NG H2 v) → Q (.ref p) H2) : tLst ta σ H Q :=
  h H (Same.refl _) _ fun vs H2 s2 hl g => ⟨by rw [hl]; exact small_line (by omega), fun p hp => q p vs _ (s2.trans (Same.new hp)) (s2.free hp) upd_same hl fun v hv => (g v hv).same (Same.new hp)⟩
end
/-! ### any thing -/
def Thing (H : Hp) (x : V) : Prop := Sh x ∧ (∃ T, Kn H x T) ∧ ∀ l, x = .str (mkS l) → ∀ c ∈ l, c < 0x110000
theorem Thing.same {H H' : Hp} {v : V} (g : Thing H v) (s : Same H H') : Thing H' v := let ⟨h, ⟨T, k⟩, z⟩ := g; ⟨h, ⟨T, k.same s⟩, z⟩
theorem thing_str {H : Hp} {l : List Nat} (hl : l.length ≤ 1000) (hc : ∀ c ∈ l, c < 0x110000) : Thing H (.str (mkS l)) :=
  ⟨by show (mkS l).length ≤ 1000; rw [mkS_len]; exact hl, ⟨_, .str _⟩, fun m e c h => hc c (by injection e with e; rw [mkS_inj.mp e]; exact h)⟩
theorem NG.thing {H : Hp} {v : V} (g : NG H v) : Thing H v := by
  obtain ⟨T, k, h⟩ := g
  refine ⟨?_, ⟨T, k⟩, fun l e => ?_⟩
  · cases k <;> first | exact True.intro | exact absurd rfl h
  · subst e
    cases k
    exact absurd rfl h
def spThing : Sp := fun vs H Q _ => ∃ n : Int, vs = [.int n] ∧ ∀ x H', Same H H' → Thing H' x → Q x H'
def spSign1 : Sp := fun vs H Q _ => ∃ n : Int, vs = [.int n] ∧ ∀ c, c < 0x110000 → Q (.str (mkS [c])) H
def spLawWord : Sp := fun vs H Q _ => ∃ x, vs = [x] ∧ Thing H x ∧ ∀ H', Same H H' → Q (.bl (wordB x)) H'
/-- the law: true of each script; the table at T is held -/
def spLawT (K : PySem.W.Frag) (T : Addr) : Sp := fun vs H Q _ => ∃ (a : Addr) (ns : List Int), vs = [.ref a] ∧ SqL K H a (ns.map V.int) ∧ ns.length ≤ 63 ∧ Tb H T ∧ ∀ H', Tb H' T → Q (.bl true) H'
theorem Tb.same {H H' : Hp} {T : Addr} (h : Tb H T) (s : Same H H') : Tb H' T := s _ _ h
/-- "".join of texts of one sign -/
theorem join_ones (l : List Nat) : Txt.join (mkS []) (l.map fun c => mkS [c]) = mkS l := by
  have e : ∀ l : List Nat, TL.joinL [] (l.map fun c => [c]) = l := by
    intro l
    induction l with
    | nil => rfl
    | cons a r ih =>
      cases r with
      | nil => rfl
      | cons b r => exact congrArg (a :: ·) ih
  rw [TL.join_eq]
  refine TL.ext_tl ((TL.tl_join _ _).trans ?_)
  rw [List.map_map]
  exact (e l).trans (mkS_cps l).symm
theorem wd_small {l : List Nat} (h : Wd l) : ∀ c ∈ l, c < 0x110000 := fun c hc => by have := (h c hc).2; omega
/-- the signs that are no letters, as texts -/
def badV (l : List Nat) : List V := (l.filter fun c => !decide (c ∈ alpha)).map fun c => V.str (mkS [c])
theorem badV_nil (l : List Nat) : decide (badV l = []) = l.all fun c => decide (c ∈ alpha) := by
  rw [Bool.eq_iff_iff, decide_eq_true_iff]
  unfold badV
  rw [List.map_eq_nil_iff, List.filter_eq_nil_iff, List.all_eq_true]
  simp
theorem badV_snoc {l : List Nat} {i c : Nat} (h : l[i]? = some c) : badV (l.take (i + 1)) = badV (l.take i) ++ (if c ∈ alpha then [] else [V.str (mkS [c])]) := by
  unfold badV
  rw [List.take_succ, h]
  simp only [Option.toList_some, List.filter_append, List.map_append]
  by_cases hc : c ∈ alpha <;> simp [hc]
theorem badV_len {l : List Nat} {n : Nat} (h : l.length ≤ n) (i : Nat) : (badV (l.take i)).length ≤ n := by
  unfold badV
  rw [List.length_map]
  exact Nat.le_trans (List.length_filter_le _ _) (Nat.le_trans (by rw [List.length_take]; exact Nat.min_le_right _ _) h)
theorem badV_dat {K : PySem.W.Frag} {H : Hp} {l : List Nat} (h : ∀ c ∈ l, c < 0x110000) : ∀ v ∈ badV l, Dat K H v 20 := fun v hv => by
  obtain ⟨c, hc, rfl⟩ := List.mem_map.mp hv
  exact dat_str (strOk_small fun d hd => by rw [List.mem_singleton.mp hd]; exact h c (List.mem_filter.mp hc).1)
/-- a list of data is compared with the empty one -/
theorem eqD_nil {K : PySem.W.Frag} {H : Hp} {Q : VK} {p q : Addr} {xs : List V} (hp : SqL K H p xs) (hq : SqL K H q []) (h : ∀ v ∈ xs, Dat K H v 20) (r : Q (.bl (decide (xs = []))) H) : rEqD K (.ref p) (.ref q) H Q := by
  cases xs with
  | nil => exact eqD_same hp hq h r
  | cons x xs =>
    obtain ⟨ds, h1, h2, h3⟩ := dat_all h
    have sh : SeqAt.shaped (.list ds) = true := by
      unfold SeqAt.shaped
      rw [show PyData.canLay0 (.list ds) = true from h2, Bool.true_and, decide_eq_true_iff]
      simp only [PyData.depth]; omega
    refine ⟨.list ds, .list [], .lst hp h1, .lst hq .nil, sh, by decide +kernel, ?_⟩
    cases h1 with
    | cons a b =>
      rw [show PyData.eqv (.list _) (.list []) = decide (x :: xs = []) from by simp [PyData.eqv, PyData.eqvAll]]
      exact r
/-! ### the law's end -/
def spTab (sp : Sp) (T : Addr) : Sp := fun vs H Q E => H T = some (.tbl #[]) ∧ sp vs (upd H T (tabO T)) (fun v H' => Tb H' T ∧ ∀ H2, Q v H2) E
theorem lawAtT {l : PySem.W.OpenLaw} {w : World} {K : PySem.W.Frag} {mg : Str → Option Value} {fa : Addr} {h : Heap} {k : Nat} {p : He.Defn} {fd : FuncData} (t : TabAt K h p) (X : K.In h) (hb : ∀ (s : Shared) (v : Value), BindsTo s fd ⟨[v], []⟩ [("_law_script", v)])
    (F : ∀ base : Heap, K.In base → base.Ns mainGlobals mg → GxR.TabB base mg (He.cT K p).1 (He.cT K p).2 → FnOk l.prog w K mg base CX0 k fa fd ["_law_script"] (spTab (spLawT K (He.cT K p).2) (He.cT K p).2)) :
    LamX.LawAtS l w K CX0 k 63 "_law_script" mg fa h := by
  refine ⟨fd, [He.cT K p], spTab (spLawT K (He.cT K p).2) (He.cT K p).2, ?_, ?_, ?_, hb, fun H a ns hl _ hT hS => ?_, fun base kb gb tb => ?_⟩
  · intro q hq
    rw [List.mem_singleton.mp hq]; exact t.empty
  · intro q hq
    rw [List.mem_singleton.mp hq]; exact t.out
  · intro q hq
    rw [List.mem_singleton.mp hq]; exact PySem.W.codeHd_of_K X t.hd
  · have hT0 := hT _ (List.mem_singleton.mpr rfl)
    refine ⟨hT0, a, ns, rfl, ?_, hl, upd_same, fun H' hT' => ⟨hT', fun _ => rfl⟩⟩
    have off : ∀ u, H a = some u → (∀ q, u ≠ .tbl q) → upd H (He.cT K p).2 (tabO (He.cT K p).2) a = some u := fun u e q => by
      rw [upd_ne (fun z => by rw [z, hT0] at e; exact q _ (Option.some.inj e).symm)]; exact e
    rcases hS with (h1 | ⟨o, h1⟩) | h1
    · exact .inl (.inl (off _ h1 fun _ z => nomatch z))
    · exact .inl (.inr ⟨o, off _ h1 fun _ z => nomatch z⟩)
    · exact .inr h1
  · have tb0 := tb _ (List.mem_singleton.mpr rfl)
    exact F base kb gb ⟨tb0.code, tb0.bm, tb0.gP⟩
theorem codeAt_says {fa : List He.Fa} {fn : List He.DefD} {K : PySem.W.Frag} {h : Heap} {mg : Str → Option Value} (X : K.In h) (G : h.Ns mainGlobals mg) (c : He.SaysD fa fn K) (i j : Nat) {x : Str} {st : Stmt}
    (hi : fn[i]? = some (dOf x st)) (hj : fa[j]? = some (.glo x)) : CodeAt K mg x (He.cT K (x, none)).1 := by
  obtain ⟨fd, F⟩ := c.def_ i hi
  intro f oc od fd' osl hf lk
  have hm := He.glo_ok X G (c.fact j hj)
  rw [hm] at hf
  injection hf with hf
  injection hf with hf
  subst hf
  obtain ⟨oc2, od2, dV, kV, doc, pm, an, cdv, ct, osl2, e2, lk2, hcd, _, _⟩ := F.ex
  have lk3 : K.lookup (He.fAd K (x, none)) = some ⟨oc, od, .func fd', osl⟩ := lk
  obtain ⟨cc, hcc⟩ := He.codeIn_ref hcd
  have lk2' : K.lookup (He.fAd K (x, none)) = some ⟨oc2, od2, .func fd, osl2⟩ := lk2
  rw [lk3] at lk2'
  injection lk2' with z
  injection z with _ _ z _
  injection z with z
  subst z
  have e : fd'.code = .ref cc := by rw [e2]; exact hcc
  rw [e]
  exact congrArg Value.ref (He.codeOf_eq lk3 e).symm
end N0

/-! B14: two words of a law; rows of a table. -/
namespace N0
open PySem PySem.Spec PyProof.Rows L2
def spBent : Sp := fun vs H Q _ => ∃ (m n : Int) (l : List Nat), vs = [.int m, .str (mkS l), .int n] ∧ Wd l ∧ l.length ≤ 24 ∧ ∀ l' H', Wd l' → l'.length ≤ 24 → Same H H' → Q (.str (mkS l')) H'
def spTwo (K : PySem.W.Frag) : Sp := fun vs H Q _ => ∃ (a : Addr) (ns : List Int), vs = [.ref a] ∧ SqL K H a (ns.map V.int) ∧ ∀ l r p H', Wd l → Wd r → l.length ≤ 24 → r.length ≤ 24 → Same H H' → H' p = some (.tup [.str (mkS l), .str (mkS r)]) → Q (.ref p) H'
/-! ### rows of a table -/
def rowV (rs : List Nat) : List V := rs.map fun n => V.int (n : Nat)
theorem rowV_get {rs : List Nat} {i n : Nat} (h : rs[i]? = some n) : (rowV rs)[i]? = some (.int (n : Nat)) := by unfold rowV; rw [List.getElem?_map, h]; rfl
theorem rowV_len (rs : List Nat) : (rowV rs).length = rs.length := by simp [rowV]
theorem Same.wr {H H' : Hp} {D : Addr} {o : HO} (s : Same H H') (h : H D = none) : Same H (upd H' D o) := fun x u e => by
  rw [upd_ne (ne_of_none e h)]; exact s x u e
def qMin3 : List V → Hp → VK → Prop := fun xs H Q => ∃ a b c : Nat, xs = [.int a, .int b, .int c] ∧ Q (.int ((min a (min b c) : Nat))) H
theorem min2_nat (a b : Nat) : nuMin2 (.int a) (.int b) = some (.int ((min a b : Nat))) := by
  show (some (decide ((b : Int) < (a : Int)))).map _ = _
  by_cases h : (b : Int) < (a : Int)
  · rw [decide_eq_true h, show min a b = b by omega]; rfl
  · rw [decide_eq_false h, show min a b = a by omega]; rfl
theorem c_min3 {X : Cx} (hc : X.calm = true) : CallR X (.builtin "min") qMin3 := fun pins s σ H xs us Q I r ⟨a, b, c, e, q⟩ =>
  call_min3Nu hc pins s σ H xs us Q I r ⟨_, _, _, .int ((min a (min b c) : Nat)), e, by
    unfold nuMin3
    rw [min2_nat]
    exact (min2_nat _ _).trans (by rw [show min (min a b) c = min a (min b c) by omega]), q⟩
theorem g_min3 {a b c : Nat} {x y z : Int} {H : Hp} {Q : VK} (h1 : x = a) (h2 : y = b) (h3 : z = c) (q : Q (.int ((min a (min b c) : Nat))) H) : qMin3 [.int x, .int y, .int z] H Q := ⟨a, b, c, by rw [h1, h2, h3], q⟩
/-- the row behind one letter more -/
def spNext (K : PySem.W.Frag) : Sp := fun vs H Q _ => ∃ (a : Addr) (p b : List Nat) (c : Nat), vs = [.ref a, .str (mkS [c]), .str (mkS b)] ∧ SqL K H a (rowV (Lv.row p b)) ∧ b.length ≤ 1000 ∧
  ∀ D H', Same H H' → H D = none → H' D = some (.lst (rowV (Lv.row (p ++ [c]) b))) → Q (.ref D) H'
/-- the distance -/
def spFar : Sp := fun vs H Q _ => ∃ l r : List Nat, vs = [.str (mkS l), .str (mkS r)] ∧ l.length ≤ 1000 ∧ r.length ≤ 1000 ∧ ∀ H', Same H H' → Q (.int ((Lv.lev l r : Nat))) H'
theorem row_first (p b : List Nat) (c : Nat) : (Lv.row (p ++ [c]) b).take 1 = [p.length + 1] := by
  have h := Lv.row_get (p := p ++ [c]) (b := b) (j := 0) (by omega)
  rw [List.take_zero, Lv.lev_nil_right, List.length_append] at h
  rw [List.take_succ, h]
  rfl
theorem row_zero (p b : List Nat) : (Lv.row p b)[0]? = some p.length := by
  rw [Lv.row_get (by omega), List.take_zero, Lv.lev_nil_right]
theorem row_step {p b : List Nat} {c i y : Nat} (hy : b[i]? = some y) : (Lv.row (p ++ [c]) b).take (i + 2) = (Lv.row (p ++ [c]) b).take (i + 1) ++ [min (Lv.lev p (b.take i) + if y = c then 0 else 1) (min (Lv.lev p (b.take (i + 1)) + 1) (Lv.lev (p ++ [c]) (b.take i) + 1))] := by
  have hi : i < b.length := (List.getElem?_eq_some_iff.mp hy).1
  rw [List.take_succ, Lv.row_get (by omega), ← Lv.lev_take hy]
  rfl
theorem row_last (p b : List Nat) : rowV (Lv.row p b) = rowV ((Lv.row p b).take b.length) ++ [V.int ((Lv.lev p b : Nat))] := by
  have e : Lv.row p b = (Lv.row p b).take (b.length + 1) := (List.take_of_length_le (by rw [Lv.row_len]; omega)).symm
  have h := Lv.row_get (p := p) (b := b) (j := b.length) (Nat.le_refl _)
  rw [List.take_length] at h
  conv => lhs; rw [e, List.take_succ, h]
  simp [rowV]
theorem rg_row (b : List Nat) : rgV 0 ((b.length : Int) + 1) = rowV (Lv.row [] b) := by
  rw [Lv.row_nil]
  unfold rgV rowV
  rw [show (((b.length : Int) + 1) - 0).toNat = b.length + 1 by omega]
  exact List.map_congr_left fun i _ => by rw [Int.zero_add]
section
variable {σ : L2.St} {H : Hp} {te ta : TE} {tb : TS} {nx bk ct : L2.St → Hp → Prop} {rt Q : VK} {i j : Nat}
theorem g_listRg (h : te σ H fun x H1 => ∃ n, x = .int n ∧ RgOk 0 n ∧ ∀ q, H1 q = none → Q (.ref q) (upd H1 q (.lst (rgV 0 n)))) : tLstRg (tRg1 te) σ H Q := h
/-- for, sign by sign -/
theorem g_txt {l : List Nat} (h : σ[i]? = some (some (.str (mkS l)))) (Pv : Nat → L2.St → Hp → Prop) (p0 : Pv 0 σ H)
    (hs : ∀ (i : Nat) c σ' H', l[i]? = some c → Pv i σ' H' → tb (Ends.mk (Pv (i + 1)) rt nx (Pv (i + 1))) (σ'.set j (some (.str (mkS [c])))) H') (hd : ∀ σ' H', Pv l.length σ' H' → nx σ' H') :
    iStr (tVar i) σ H (kFor (gName j) tb (Ends.mk nx rt bk ct) σ) := by
  have e : (mkS l).cps.size = l.length := by simp [mkS]
  refine g_iStr h (for_it walk_str Pv p0 (fun _ _ _ _ _ => trivial) (fun i x σ' H1 H' hi p y => ?_) (by rw [e]; exact hd))
  obtain ⟨e1, c, hc, e2⟩ := y
  subst e1 e2
  exact hs i c σ' _ (its_at hc) p
end
/-! ### changes in a row, told by the law -/
def spLawLed : Sp := fun vs H Q _ => ∃ (l : List Nat) (p : Addr) (xs : List V) (os : List (Option (List V))), vs = [.str (mkS l), .ref p] ∧ l.length ≤ 200 ∧ xs.length ≤ 200 ∧ H p = some (.lst xs) ∧ xs.length = os.length ∧
  (∀ (i : Nat) x o, xs[i]? = some x → os[i]? = some o → Cg H x o) ∧ Q (optV (ledR l os)) H
theorem ledR_next {l m : List Nat} {os : List (Option (List V))} {i : Nat} {o : Option (List V)} (h : ledR l (os.take i) = some m) (ho : os[i]? = some o) : ledR l (os.take (i + 1)) = stepR m o := by
  rw [List.take_succ, ho, ledR_app, h]
  exact ledR_one m o
theorem ledR_stop {l m : List Nat} {os : List (Option (List V))} {i : Nat} {o : Option (List V)} (h : ledR l (os.take i) = some m) (ho : os[i]? = some o) (hs : stepR m o = none) : ledR l os = none := by
  rw [← List.take_append_drop (i + 1) os, ledR_app, ledR_next h ho, hs]
  rfl
/-! ### a promise that lets nothing out -/
theorem Dd.quiet {P : Program} {w : World} {K : PySem.W.Frag} {mg : Str → Option Value} {base : Heap} {k : Nat} {x : Str} {ps : List Str} {sp : Sp} (D : Dd P w K mg base (L2.CX P w) k x ps sp) (h : ∀ vs H Q E, sp vs H Q E → sp vs H Q E0) : Dd P w K mg base CX0 k x ps sp := by
  obtain ⟨f, fd, hm, hk, hb, F, he⟩ := D.ex
  refine ⟨f, fd, hm, hk, hb, ⟨F.len, fun A outer s H args us vs Q E hr e0 ha hv hs => codeAny_mono (F.run A outer s H args us vs Q E0 hr e0 ha hv (h _ _ _ _ hs)) fun r s' hq => ?_⟩, he⟩
  cases r with
  | error e =>
    obtain ⟨_, _, _, _, _, _, _, _, _, _, _, _, z⟩ := hq
    exact z
  | ok fl => cases fl <;> exact hq
/-- distance, way, of words; the table at T is held -/
def spDist (T : Addr) : Sp := fun vs H Q _ => ∃ l r : List Nat, vs = [.str (mkS l), .str (mkS r)] ∧ Wd l ∧ Wd r ∧ l.length ≤ 24 ∧ r.length ≤ 24 ∧ Tb H T ∧ ∀ H', Same H H' → Q (.int ((Lv.lev l r : Nat))) H'
def spWay (T : Addr) : Sp := fun vs H Q _ => ∃ l r : List Nat, vs = [.str (mkS l), .str (mkS r)] ∧ Wd l ∧ Wd r ∧ l.length ≤ 24 ∧ r.length ≤ 24 ∧ Tb H T ∧
  ∀ p xs os H', Same H H' → H p = none → H' p = some (.lst xs) → xs.length = os.length → (∀ (i : Nat) x o, xs[i]? = some x → os[i]? = some o → Cg H' x o) → ledR l os = some r → os.length = Lv.lev l r → Q (.ref p) H'
theorem g_BM0 {σ : L2.St} {H : Hp} {K : PySem.W.Frag} {T : String} {r : V → List V → Hp → VK → Prop} {t : TE} {Q : VK} (h : t σ H fun x H1 => tyV K T x H1 ∧ r x [] H1 Q) : tBM0 K T r t σ H Q := h
end N0

/-! B15: a text from behind. -/
namespace N0
open PySem PySem.Spec PyProof.Rows L2
theorem rev_picked (l : List Nat) : ((List.range l.length).map fun k => l.length - 1 - k).filterMap ((mkS l).cps[·]?) = l.reverse := by
  have e : (mkS l).cps.size = l.length := by simp [mkS]
  rw [filterMap_get _ _ fun i hi => ?_, List.map_map]
  · refine List.ext_getElem (by simp) fun i h1 h2 => ?_
    have hi : i < l.length := by simpa using h1
    have hk : l.length - 1 - i < l.length := by omega
    simp only [List.getElem_map, List.getElem_range, List.getElem_reverse, Function.comp, mkS]
    simp [Array.getD, hk]
  · obtain ⟨k, hk, rfl⟩ := List.mem_map.mp hi
    have := List.mem_range.mp hk
    rw [e]; omega
theorem rev_made (l : List Nat) (t u : Tok) : sliceMade (mkS l) t none none (some (-1, u)) = .str (mkS l.reverse) := by
  unfold sliceMade
  rw [if_neg (by show ¬ (((-1 : Int) == 1 && _) = true); rw [show ((-1 : Int) == 1) = false from rfl, Bool.false_and]; exact Bool.false_ne_true)]
  show Made.str ⟨((Builtin.Str.strSliceIndices none none (-1) (mkS l).length).filterMap ((mkS l).cps[·]?)).toArray⟩ = _
  rw [picked_rev, mkS_len, rev_picked]
  rfl
def tRevS (te : TE) : TE := fun σ H Q => te σ H fun x H1 => ∃ l, x = .str (mkS l) ∧ l.length ≤ 100000 ∧ Q (.str (mkS l.reverse)) H1
theorem g_revS {σ : L2.St} {H : Hp} {te : TE} {Q : VK} (h : te σ H fun x H1 => ∃ l, x = .str (mkS l) ∧ l.length ≤ 100000 ∧ Q (.str (mkS l.reverse)) H1) : tRevS te σ H Q := h
theorem pe_revS {X : Cx} {e : Expr} {te : TE} {k : Nat} {p1 p2 p3 pos : Pos} (he : PE X e te) : PE X (.Subscript e (.Slice none none (some (.UnaryOp .USub (.Constant (.int 1) k p1) p2)) p3) pos) (tRevS te) :=
  ⟨fun pins s σ H Q I h => Subscript_ (thn (he.run pins s σ H _ I h) fun v s1 ⟨x, H1, J1, rx, l, ex, hl, q⟩ => by
    subst ex
    obtain ⟨t, rfl⟩ := (show ∃ t, v = Value.str (mkS l) t from rx)
    have part : PO X (some (.UnaryOp .USub (.Constant (.int 1) k p1) p2)) (tPart (tUn (rU fun i => .int (-i)) (tC (.int 1)))) := po_some (pe_un un_neg pe_int)
    refine wpAny_Slice (thn (po_none.run pins s1 σ H1 (fun o H2 => o = none ∧ H2 = H1) J1 ⟨rfl, rfl⟩) fun v1 s2 ⟨o1, H2, J2, b1, e1, w1⟩ => ?_)
    subst e1 w1
    refine thn (po_none.run pins s2 σ H2 (fun o H3 => o = none ∧ H3 = H2) J2 ⟨rfl, rfl⟩) fun v2 s3 ⟨o2, H3, J3, b2, e2, w2⟩ => ?_
    subst e2 w2
    refine thn (part.run pins s3 σ H3 (fun o H4 => o = some (-1) ∧ H4 = H3) J3 ⟨1, rfl, -1, rfl, rfl, rfl⟩) fun v3 s4 ⟨o3, H4, J4, b3, e3, w3⟩ => ?_
    subst e3 w3
    obtain ⟨m1, rfl, z1⟩ := IsPart.raw b1
    obtain ⟨m2, rfl, z2⟩ := IsPart.raw b2
    obtain ⟨m3, rfl, z3⟩ := IsPart.raw b3
    have J5 : Inv X pins σ H4 { s4 with heap := s4.heap.push { cls := .type "slice", data := .fields #[partValue m1, partValue m2, partValue m3] } } := J4.kept (t' := s4.toks) fun b ob q => Heap.get?_push_of_some _ q
    obtain rfl : m1 = none := by cases m1 with | none => rfl | some a => cases z1
    obtain rfl : m2 = none := by cases m2 with | none => rfl | some a => cases z2
    obtain ⟨u, rfl⟩ : ∃ u, m3 = some (-1, u) := by
      cases m3 with
      | none => cases z3
      | some a => obtain ⟨i, u⟩ := a; exact ⟨u, by injection z3 with z3; rw [show i = -1 from z3]⟩
    show wpAny _ _ (subscriptTail e (.Slice none none (some (.UnaryOp .USub (.Constant (.int 1) k p1) p2)) p3) (.str (mkS l) t) (.ref s4.heap.objs.size)) _ _ { s4 with heap := s4.heap.push { cls := .type "slice", data := .fields #[partValue none, partValue none, partValue (some (-1, u))] } }
    refine tail_any (ops := [.str (mkS l) t, .ref s4.heap.objs.size]) (typeIs_str _ _ _) F.slot_str_getitem.lookup (wpAny_getItem_str_slice (l := none) (u := none) (st := some (-1, u)) ⟨_, Heap.get?_push_size _ rfl, rfl, rfl⟩ rfl ?_) (by with_unfolding_all rfl)
    rw [rev_made]
    exact ⟨by show (mkS l.reverse).length ≤ sizeLine; rw [mkS_len, List.length_reverse]; exact small_line hl, .str _, H4, J5.tok _, ⟨_, rfl⟩, q⟩)⟩
/-! ### min of a list of whole numbers, with what is told of an empty one -/
def minOr (d : Int) : List Int → Int
  | [] => d
  | n :: r => r.foldl min n
def qMinD (K : PySem.W.Frag) : List V → List V → Hp → VK → Prop := fun xs zs H Q => ∃ (p : Addr) (ns : List Int) (d : Int), xs = [.ref p] ∧ zs = [.int d] ∧ SqL K H p (ns.map V.int) ∧ Q (.int (minOr d ns)) H
theorem dpAll_ints {K : PySem.W.Frag} {H : Hp} : ∀ ns : List Int, DpAll K H (ns.map V.int) (ns.map PyData.int)
  | [] => .nil
  | n :: r => .cons (.int n) (dpAll_ints r)
theorem depth_ints : ∀ ns : List Int, PyData.depthAll (ns.map PyData.int) ≤ 1
  | [] => by simp [PyData.depthAll]
  | n :: r => by have := depth_ints r; simp only [List.map_cons, PyData.depthAll, PyData.depth]; omega
theorem c_minD {X : Cx} (hc : X.calm = true) (hu : X.A.units + 64 < cLine) : CallRK X (.builtin "min") [Str.ofString "default"] (qMinD X.K) := by
  intro pins s σ H xs zs us ws Q I r rz h
  obtain ⟨p, ns, d, rfl, rfl, hs, q⟩ := h
  obtain rfl := Vals.ref1 r
  obtain ⟨w1, rfl, t, rfl⟩ := vals1 rz
  obtain ⟨its, rv, hl, _⟩ := I.list hs
  obtain ⟨as, ra⟩ := Dp.readsAll I (ns.map PyData.int) (ns.map V.int) its (dpAll_ints ns) rv
  have dep := depth_ints ns
  refine PySem.W.min_list_default (I.ok.hd hc) hl.isList (by simpa using ra) ?_ (by omega) (fun e h' tk k => ?_) (fun y ys i v h' tk bs e hv rd k => ?_)
  · refine ⟨fun x hx y hy => ?_, fun x hx e => ?_⟩
    · obtain ⟨a, _, rfl⟩ := List.mem_map.mp hx
      obtain ⟨b, _, rfl⟩ := List.mem_map.mp hy
      rfl
    · obtain ⟨a, _, rfl⟩ := List.mem_map.mp hx
      cases e
  · obtain rfl := List.map_eq_nil_iff.mp e
    exact ⟨.int d, H, I.kept k, ⟨t, rfl⟩, q⟩
  · cases ns with
    | nil => cases e
    | cons n m =>
      injection e with e1 e2
      subst e1 e2
      rw [PySem.W.minD_ints] at rd
      cases rd
      exact ⟨.int _, H, I.kept k, ⟨_, rfl⟩, q⟩
theorem g_minD {K : PySem.W.Frag} {H : Hp} {Q : VK} {p : Addr} {ns : List Int} {d : Int} (hs : SqL K H p (ns.map V.int)) (q : Q (.int (minOr d ns)) H) : qMinD K [.ref p] [.int d] H Q := ⟨p, ns, d, rfl, rfl, hs, q⟩
/-! ### the table of two words -/
/-- the list at p holds lists: the rows of the beginnings of l -/
structure TabV (H : Hp) (p : Addr) (qs : List Addr) (l r : List Nat) : Prop where
  top : H p = some (.lst (qs.map V.ref))
  len : qs.length = l.length + 1
  rows : ∀ (i : Nat) q, qs[i]? = some q → H q = some (.lst (rowV (Lv.row (l.take i) r)))
theorem TabV.same {H H' : Hp} {p : Addr} {qs : List Addr} {l r : List Nat} (t : TabV H p qs l r) (s : Same H H') : TabV H' p qs l r := ⟨s _ _ t.top, t.len, fun i q h => s _ _ (t.rows i q h)⟩
theorem TabV.at {H : Hp} {p : Addr} {qs : List Addr} {l r : List Nat} (t : TabV H p qs l r) {i : Nat} (h : i ≤ l.length) : ∃ q, qs[i]? = some q ∧ (qs.map V.ref)[i]? = some (.ref q) ∧ H q = some (.lst (rowV (Lv.row (l.take i) r))) := by
  have hi : i < qs.length := by rw [t.len]; omega
  exact ⟨qs[i], List.getElem?_eq_getElem hi, by rw [List.getElem?_map, List.getElem?_eq_getElem hi]; rfl, t.rows i _ (List.getElem?_eq_getElem hi)⟩
theorem row_at {l r : List Nat} {i j : Nat} (h : j ≤ r.length) : (rowV (Lv.row (l.take i) r))[j]? = some (.int ((Lv.lev (l.take i) (r.take j) : Nat))) := rowV_get (Lv.row_get h)
/-- the numbers of which a cell is the least -/
def cands (l r : List Nat) (i j : Nat) : List Int :=
  (if 0 < i then [((Lv.lev (l.take (i - 1)) (r.take j) : Nat) : Int) + 1] else []) ++ (if 0 < j then [((Lv.lev (l.take i) (r.take (j - 1)) : Nat) : Int) + 1] else []) ++
  (if 0 < i ∧ 0 < j then [((Lv.lev (l.take (i - 1)) (r.take (j - 1)) : Nat) : Int) + (if l[i - 1]? = r[j - 1]? then 0 else 1)] else [])
theorem cands_min {l r : List Nat} {i j : Nat} (hi : i ≤ l.length) (hj : j ≤ r.length) : minOr 0 (cands l r i j) = ((Lv.lev (l.take i) (r.take j) : Nat) : Int) := by
  rcases i with _ | i
  · rcases j with _ | j
    · simp [cands, minOr, Lv.lev_nil_left]
    · simp [cands, minOr, Lv.lev_nil_left, Nat.min_eq_left (show j ≤ r.length by omega), Nat.min_eq_left hj]
  · rcases j with _ | j
    · simp [cands, minOr, Lv.lev_nil_right, Nat.min_eq_left (show i ≤ l.length by omega), Nat.min_eq_left hi]
    · have hx : l[i]? = some l[i] := List.getElem?_eq_getElem (by omega)
      have hy : r[j]? = some r[j] := List.getElem?_eq_getElem (by omega)
      have e : l.take (i + 1) = l.take i ++ [l[i]] := by rw [List.take_succ, hx]; rfl
      have t := Lv.lev_take (p := l.take i) (x := l[i]) hy
      rw [← e] at t
      simp only [cands, minOr, Nat.zero_lt_succ, if_true, and_self, Nat.add_sub_cancel, List.cons_append, List.nil_append, List.foldl_cons, List.foldl_nil, hx, hy, Option.some.injEq]
      rw [t]
      by_cases c : l[i] = r[j]
      · rw [if_pos c, if_pos c.symm]
        omega
      · rw [if_neg c, if_neg (fun z => c z.symm)]; omega
def spCell : Sp := fun vs H Q _ => ∃ (p : Addr) (qs : List Addr) (l r : List Nat) (i j : Nat), vs = [.ref p, .str (mkS l), .str (mkS r), .int (i : Nat), .int (j : Nat)] ∧ TabV H p qs l r ∧ i ≤ l.length ∧ j ≤ r.length ∧ l.length ≤ 1000 ∧ r.length ≤ 1000 ∧
  ∀ H', Same H H' → Q (.int ((Lv.lev (l.take i) (r.take j) : Nat))) H'
theorem g_CKw {σ : L2.St} {H : Hp} {Q : VK} {r : List V → List V → Hp → VK → Prop} {t tk : TA} (h : t σ H fun vs H1 => tk σ H1 fun zs H2 => r vs zs H2 Q) : tCKw r t tk σ H Q := h
def spTable (T : Addr) : Sp := fun vs H Q _ => ∃ l r : List Nat, vs = [.str (mkS l), .str (mkS r)] ∧ Wd l ∧ Wd r ∧ l.length ≤ 24 ∧ r.length ≤ 24 ∧ Tb H T ∧
  ∀ p qs H', Same H H' → H p = none → (∀ q ∈ qs, H q = none ∧ q ≠ p) → TabV H' p qs l r → Q (.ref p) H'
theorem dpAll_of {K : PySem.W.Frag} {H : Hp} : ∀ {vs : List V} {ds : List PyData}, vs.length = ds.length → (∀ (i : Nat) v d, vs[i]? = some v → ds[i]? = some d → Dp K H v d) → DpAll K H vs ds
  | [], [], _, _ => .nil
  | [], _ :: _, h, _ => by cases h
  | _ :: _, [], h, _ => by cases h
  | v :: vs, d :: ds, h, g => .cons (g 0 v d rfl rfl) (dpAll_of (Nat.succ.inj h) fun i v d a b => g (i + 1) v d a b)
/-- the table as data -/
def tabD (l r : List Nat) : List PyData := (List.range (l.length + 1)).map fun i => .list ((Lv.row (l.take i) r).map fun n => PyData.int (n : Nat))
theorem tabD_at {l r : List Nat} {i : Nat} {d : PyData} (h : (tabD l r)[i]? = some d) : d = .list ((Lv.row (l.take i) r).map fun n => PyData.int (n : Nat)) := by
  unfold tabD at h
  rw [List.getElem?_map] at h
  cases e : (List.range (l.length + 1))[i]? with
  | none => rw [e] at h; cases h
  | some k =>
    obtain ⟨hk, ek⟩ := List.getElem?_eq_some_iff.mp e
    rw [List.getElem_range] at ek
    subst ek
    rw [e] at h
    injection h with h
    exact h.symm
theorem TabV.dp {K : PySem.W.Frag} {H : Hp} {p : Addr} {qs : List Addr} {l r : List Nat} (t : TabV H p qs l r) : Dp K H (.ref p) (.list (tabD l r)) := by
  refine .lst (SqL.of t.top) (dpAll_of (by rw [List.length_map, t.len]; simp [tabD]) fun i v d hv hd => ?_)
  rw [tabD_at hd]
  rw [List.getElem?_map] at hv
  cases e : qs[i]? with
  | none => rw [e] at hv; cases hv
  | some q =>
    rw [e] at hv
    injection hv with hv
    subst hv
    have z := dpAll_ints (K := K) (H := H) ((Lv.row (l.take i) r).map fun n => ((n : Nat) : Int))
    rw [List.map_map, List.map_map] at z
    exact .lst (SqL.of (t.rows i q e)) z
theorem canAll_ints : ∀ ns : List Nat, PyData.canLayAll0 (ns.map fun n => PyData.int (n : Nat)) = true
  | [] => rfl
  | n :: r => by
    show (PyData.canLay0 (.int (n : Nat)) && PyData.canLayAll0 (r.map fun n => PyData.int (n : Nat))) = true
    rw [canAll_ints r]; simp [PyData.canLay0]
theorem canAll_rows {f : Nat → List Nat} : ∀ is : List Nat, PyData.canLayAll0 (is.map fun i => PyData.list ((f i).map fun n => PyData.int (n : Nat))) = true
  | [] => rfl
  | i :: r => by
    show (PyData.canLayAll0 ((f i).map fun n => PyData.int (n : Nat)) && PyData.canLayAll0 (r.map fun i => PyData.list ((f i).map fun n => PyData.int (n : Nat)))) = true
    rw [canAll_ints, canAll_rows r]; rfl
theorem depth_rows {f : Nat → List Nat} : ∀ is : List Nat, PyData.depthAll (is.map fun i => PyData.list ((f i).map fun n => PyData.int (n : Nat))) ≤ 4
  | [] => by simp [PyData.depthAll]
  | i :: r => by
    have h1 := depth_rows (f := f) r
    have h2 := depth_ints ((f i).map fun n => ((n : Nat) : Int))
    rw [List.map_map] at h2
    have h3 : PyData.depthAll ((f i).map fun n => PyData.int (n : Nat)) ≤ 1 := h2
    simp only [List.map_cons, PyData.depthAll, PyData.depth]; omega
theorem tab_same {K : PySem.W.Frag} {H : Hp} {p p' : Addr} {qs qs' : List Addr} {l r : List Nat} {Q : VK} (t : TabV H p qs l r) (t' : TabV H p' qs' l r) (q : Q (.bl true) H) : rEqD K (.ref p) (.ref p') H Q := by
  have c : PyData.canLay0 (.list (tabD l r)) = true := canAll_rows (f := fun i => Lv.row (l.take i) r) (List.range (l.length + 1))
  have dep := depth_rows (f := fun i => Lv.row (l.take i) r) (List.range (l.length + 1))
  have sh : SeqAt.shaped (.list (tabD l r)) = true := by
    unfold SeqAt.shaped
    rw [c, Bool.true_and, decide_eq_true_iff]
    have : PyData.depthAll (tabD l r) ≤ 4 := dep
    simp only [PyData.depth]; omega
  refine ⟨_, _, t.dp, t'.dp, sh, sh, ?_⟩
  rw [SeqAt.eqv_refl _ c]; exact q
end N0

/-! B16: enumerate of a text. -/
namespace N0
open PySem PySem.Spec PyProof.Rows L2
/-- enumerate(text): each sign with its number in a new pair -/
def Ites (x : Str) : It :=
  ⟨fun i _ => i < x.cps.size, fun i H v H' => ∃ T c, v = .ref T ∧ H T = none ∧ H' = upd H T (.tup [.int (i : Nat), .str ⟨#[c]⟩]) ∧ x.cps[i]? = some c, fun i _ => x.cps.size ≤ i⟩
theorem draws_str {prog : Program} {w : World} {A : Around} (hh : A.handled = none) (it : Addr) (x : Str) (t : Tok) (ty : String) (hty : ty = "str_ascii_iterator" ∨ ty = "str_iterator") :
    Draws prog w A it [it] x.cps.size (fun i v => ∃ c u, x.cps[i]? = some c ∧ v = .str ⟨#[c]⟩ u) (fun i h => h.IsStrIter it ty x t i) := by
  rcases hty with e | e
  · rw [e]; exact Draws.strAscii hh it x t
  · rw [e]; exact Draws.strWide hh it x t
theorem turn_enumS {P : Program} {w : World} {K : PySem.W.Frag} {elts : List Expr} {kk : Nat} {tpos : Pos} (x : Str) (t : Tok) (ty : String) (hty : ty = "str_ascii_iterator" ∨ ty = "str_iterator") (e it : Addr) (hne : e ≠ it) :
    Turn P w K (.Tuple elts kk tpos) (Ites x) [e, it] e (fun i h => (∃ old, IsEnum h e it ((i : Nat) : Int) old) ∧ h.IsStrIter it ty x t i) where
  mem := by simp
  obj := fun i h st b hb => by
    obtain ⟨⟨old, he⟩, ⟨o, ho, hc, hd⟩⟩ := st
    have e' : b = e ∨ b = it := by simpa using hb
    rcases e' with z | z
    · rw [z]; exact ⟨_, he, fun v q => nomatch q⟩
    · rw [z]; exact ⟨o, ho, fun v q => by rw [hd] at q; cases q⟩
  keep := fun i h h' st k => let ⟨⟨old, he⟩, o, ho, r⟩ := st; ⟨⟨old, k e (by simp) _ he⟩, o, k it (by simp) o ho, r⟩
  item := by
    intro X hP hw hK hc i pins s σ H E I hf st hg
    subst hP hw hK
    obtain ⟨⟨old, he⟩, hit⟩ := st
    have hel : e < s.heap.objs.size := Heap.lt_size he
    have hil : it < s.heap.objs.size := by obtain ⟨_, q, _⟩ := hit; exact Heap.lt_size q
    have DD : Draws X.prog X.w X.A.in1 it [it] x.cps.size (fun i v => ∃ c u, x.cps[i]? = some c ∧ v = .str ⟨#[c]⟩ u) (fun i h => h.IsStrIter it ty x t i) := draws_str (A := X.A.in1) (show X.A.in1.handled = none from I.ok.hd hc) it x t ty hty
    refine wpAny_pyNext_enum_itemD DD he hit hg hne (fun z => hne (by simpa using z)) fun y h' tk hy ho hit' hT hsz hk => ?_
    obtain ⟨c, u, hcx, rfl⟩ := hy
    refine ⟨_, rfl, wpAny_letOwnedTupleGo_enum (s := { s with heap := h', toks := tk + 1 }) ho fun h'' he' sb => ?_⟩
    have hT2 : h''.get? s.heap.objs.size = some { cls := .type "tuple", data := .seq #[.int i tk, .str ⟨#[c]⟩ u] } := (sb.2 _ (Nat.ne_of_gt hel)).trans hT
    have new : ObjOk X.prog X.w (upd H s.heap.objs.size (.tup [.int (i : Nat), .str ⟨#[c]⟩])) h'' s.heap.objs.size (.tup [.int (i : Nat), .str ⟨#[c]⟩]) :=
      ⟨by show 2 ≤ sizeLine; decide, [.int i tk, .str ⟨#[c]⟩ u], .cons ⟨_, rfl⟩ (.cons ⟨_, rfl⟩ .nil), ⟨_, hT2, rfl, _, rfl⟩⟩
    have I1 : Inv X pins σ (upd H s.heap.objs.size (.tup [.int (i : Nat), .str ⟨#[c]⟩])) { s with heap := h'', toks := tk + 1 } :=
      I.turnedNew (ch := [e, it]) (fun b ob hb q => (sb.2 b (fun z => hb (by simp [z]))).trans (hk b ob (fun z => hb (by simp [z])) (fun z => hb (by simp [z])) q)) hf (Nat.le_refl _) new
    refine ⟨.ref s.heap.objs.size, _, I1, rfl, ⟨_, c, rfl, I.hok.fresh (Nat.le_refl _), rfl, hcx⟩, ⟨⟨.str ⟨#[c]⟩ u, ?_⟩, ?_⟩, fun b hb => ?_⟩
    · have e1 : ((i + 1 : Nat) : Int) = (i : Int) + 1 := by omega
      rw [e1]; exact he'
    · obtain ⟨o, ho1, r⟩ := hit'
      exact ⟨o, (sb.2 it (Ne.symm hne)).trans ho1, r⟩
    · have hb' : b < s.heap.objs.size := by
        have e' : b = e ∨ b = it := by simpa using hb
        rcases e' with z | z
        · rw [z]; exact hel
        · rw [z]; exact hil
      rw [upd_ne (Nat.ne_of_lt hb')]
      exact (hf b hb).1
  done := by
    intro X hP hw hK hc i pins s σ H E I hf st hg
    subst hP hw hK
    obtain ⟨⟨old, he⟩, hit⟩ := st
    obtain ⟨f0, f1, f2, f3, f4, f5⟩ := hf it (by simp)
    have hx : x.cps[i]? = none := Array.getElem?_eq_none hg
    have hT : s.TypeIs (.ref e) "enumerate" := ⟨_, he, rfl⟩
    have D : ∀ {Q : Value → Shared → Prop} {E : Value → Shared → Prop}, (∀ h' y, Heap.ExtBut it s.heap h' → (∃ o, h'.get? y = some o ∧ o.cls = .type "StopIteration") → E (.ref y) { s with heap := h' }) → wpAny (model X.prog X.w) X.A.in1 (Builtin.SmallTypes.nextOf (.ref it)) Q E s := by
      intro Q E hE
      rcases hty with z | z
      · rw [z] at hit; exact wpAny_nextOf_ascii_end (I.ok.hd hc) hit hx hE
      · rw [z] at hit; exact wpAny_nextOf_wide_end (I.ok.hd hc) hit hx hE
    unfold pyNext
    refine wpAny_bind (wpAny_attempt (wpAny_callSpecial?_slot (name := Str.ofString "__next__") hT F.slot_enumerate_next
      (wpAny_call_entry F.slot_enumerate_next hT F.entry_enumerate_next ?_ (F.args_enumerate_next_1 _))))
    show wpAny _ _ (field (.ref e) 2 >>= _) _ _ _
    refine wpAny_bind (wpAny_field he rfl (x := .ref it) rfl ?_)
    refine wpAny_bind (D fun h' y he' hx' => ?_)
    obtain ⟨o, ho, hc'⟩ := hx'
    refine wpAny_bind (wpAny_isInstance (T := "StopIteration") (b := true) ⟨o, ho, hc'⟩ isSubtype_stop ?_)
    exact wpAny_pure ⟨rfl, I.turned (t' := s.toks) (fun b o hb q => he' b o hb q) f0 f1 f3 f4 f5⟩
  self := fun A i s Q E st h => let ⟨⟨_, he⟩, _⟩ := st; wpAny_pyIter_enum he h
def iEnumS (ta : TA) : TI := fun σ H R => ta σ H fun vs H1 => ∃ x, vs = [.str x] ∧ R (Ites x) H1
theorem strIter_two (x : Str) : strIterType x = "str_ascii_iterator" ∨ strIterType x = "str_iterator" := by
  unfold strIterType
  split
  · exact .inl rfl
  · exact .inr rfl
theorem pi_enumS {X : Cx} {e : Expr} {ta : TA} {p pos tpos : Pos} {elts : List Expr} {kk : Nat} (hg : Gl X "enumerate") (hm : X.mg "enumerate" = none) (ha : PA X [e] ta) (hs : starEach [e] X.env = [(false, eval e X.env)] := by rfl) :
    PI X (.Tuple elts kk tpos) (.Call (.Name "enumerate" p) [e] [] pos) (iEnumS ta) := by
  refine ⟨fun pins s σ H R I h => ?_⟩
  refine Call_ (ld_blt I hg hm boot_enumerate (PyProof.Rows.callWith_type1 (thn (ha.run pos pins s σ H _ I h) fun us s1 ⟨vs, H1, I1, r1, q1⟩ => ?_) hs rfl))
  obtain ⟨x, ex, q⟩ := q1
  subst ex
  cases r1 with
  | cons r rr =>
    cases rr
    obtain ⟨t, rfl⟩ := r
    refine call_enumerate_str fun h' he hit hsz hk => wpAny_pyIter_enum he ?_
    have I2 : Inv X pins σ H1 { s1 with heap := h' } := I1.kept (t' := s1.toks) hk
    refine ⟨s1.heap.objs.size + 1, [s1.heap.objs.size + 1, s1.heap.objs.size], _, _, H1, rfl, I2, turn_enumS x t _ (strIter_two x) (s1.heap.objs.size + 1) s1.heap.objs.size (Nat.succ_ne_self _), ⟨⟨.none, he⟩, hit⟩, fun b hb => ?_, q⟩
    have e' : b = s1.heap.objs.size + 1 ∨ b = s1.heap.objs.size := by simpa using hb
    have hle : s1.heap.objs.size ≤ b := by
      rcases e' with z | z
      · rw [z]; exact Nat.le_add_right _ _
      · rw [z]; exact Nat.le_refl _
    exact I1.fpOk hle (I1.hok.fresh hle)
theorem walk_enumS {x : Str} : Walk (Ites x) x.cps.size (fun _ => True) (fun i H v H' => ∃ T c, v = .ref T ∧ H T = none ∧ H' = upd H T (.tup [.int (i : Nat), .str ⟨#[c]⟩]) ∧ x.cps[i]? = some c) :=
  ⟨fun _ _ hi _ => hi, fun _ _ => Nat.le_refl _, fun _ _ _ _ _ _ y => y⟩
end N0

/-! B17: tables, distances and ways of the program. -/
namespace N0
open PySem PySem.Spec PyProof.Rows L2
section
variable {σ : L2.St} {H : Hp} {ta : TA} {te : TE} {tc : TT} {tb : TS} {g : TG} {K : PySem.W.Frag} {nx bk ct : L2.St → Hp → Prop} {rt Q : VK} {n : Nat} {tgs : TGs}
theorem g_while (Pm : Nat → L2.St → Hp → Prop) (m0 : Nat) (p0 : Pm m0 σ H)
    (hs : ∀ m σ' H', Pm m σ' H' → tc σ' H' fun b H1 => if b = true then ∃ N : L2.St → Hp → Prop, (∀ σ2 H2, N σ2 H2 → ∃ m', m' < m ∧ Pm m' σ2 H2) ∧ tb (Ends.mk N rt nx N) σ' H1 else nx σ' H1) :
    tWhile tc tb (Ends.mk nx rt bk ct) σ H := ⟨Pm, ⟨m0, p0⟩, hs⟩
theorem g_turn {Pm : Nat → L2.St → Hp → Prop} {m : Nat} (h : tb (Ends.mk (fun σ2 H2 => ∃ m', m' < m ∧ Pm m' σ2 H2) rt nx (fun σ2 H2 => ∃ m', m' < m ∧ Pm m' σ2 H2)) σ H) :
    ∃ N : L2.St → Hp → Prop, (∀ σ2 H2, N σ2 H2 → ∃ m', m' < m ∧ Pm m' σ2 H2) ∧ tb (Ends.mk N rt nx N) σ H := ⟨_, fun _ _ h => h, h⟩
/-- a test whose answer is known -/
theorem g_testTo {tc : TT} {QB : Bool → Hp → Prop} {b0 : Bool} (h : ∀ QB' : Bool → Hp → Prop, QB' b0 H → tc σ H QB') (q : QB b0 H) : tc σ H QB := h QB q
def spFirst : Sp := fun vs H Q _ => ∃ l : List Nat, vs = [.str (mkS l)] ∧ l.length ≤ 1000 ∧ ∀ D H', Same H H' → H D = none → H' D = some (.lst (rowV (Lv.row [] l))) → Q (.ref D) H'
def qEnS (R : It → Hp → Prop) : List V → Hp → Prop := fun vs H => ∃ x, vs = [.str x] ∧ R (Ites x) H
theorem g_iES {R : It → Hp → Prop} (h : ta σ H (qEnS R)) : iEnumS ta σ H R := h
theorem g_enS {l : List Nat} (Pv : Nat → L2.St → Hp → Prop) (p0 : Pv 0 σ H)
    (hs : ∀ (i : Nat) c σ' H' p, l[i]? = some c → Pv i σ' H' → H' p = none → g (.ref p) σ' (upd H' p (.tup [.int (i : Nat), .str (mkS [c])])) fun σ2 H2 => tb (Ends.mk (Pv (i + 1)) rt nx (Pv (i + 1))) σ2 H2)
    (hd : ∀ σ' H', Pv l.length σ' H' → nx σ' H') : qEnS (kFor g tb (Ends.mk nx rt bk ct) σ) [.str (mkS l)] H := by
  have e : (mkS l).cps.size = l.length := by simp [mkS]
  refine ⟨_, rfl, for_it walk_enumS Pv p0 (fun _ _ _ _ _ => trivial) (fun i x σ' H1 H' hi p y => ?_) (by rw [e]; exact hd)⟩
  obtain ⟨T, c, rfl, hT, rfl, hc⟩ := y
  exact hs i c σ' _ T (its_at hc) p hT
theorem g_aug {i : Nat} {x : Int} {f : Int → Int → Int} (h : σ[i]? = some (some (.int x))) (h2 : te σ H fun y H1 => ∃ j, y = .int j ∧ nx (σ.set i (some (.int (f x j)))) H1) : tAug i te (ipI f) (Ends.mk nx rt bk ct) σ H := by
  refine ⟨_, h, ?_⟩
  have e : (fun y H1 => ∃ j, y = .int j ∧ nx (σ.set i (some (.int (f x j)))) H1) = fun y H1 => ipI f (.int x) y H1 fun z H2 => nx (σ.set i (some z)) H2 := by
    funext y H1
    exact propext ⟨fun ⟨j, a, b⟩ => ⟨x, j, rfl, a, b⟩, fun ⟨i', j, a, b, c⟩ => by injection a with a; subst a; exact ⟨j, b, c⟩⟩
  show te σ H fun y H1 => ipI f (.int x) y H1 fun z H2 => nx (σ.set i (some z)) H2
  rw [← e]; exact h2
theorem atI_neg1 {xs : List V} {v : V} {i : Nat} (hl : xs.length = i + 1) (h : xs[i]? = some v) : atI xs (-1) = some v := by
  have e : xs = xs.take i ++ [v] := by
    conv => lhs; rw [← List.take_of_length_le (show xs.length ≤ i + 1 by omega), List.take_succ, h]
    rfl
  rw [e]; exact atI_last _ _
/-- a, b = a pair that stands at p -/
theorem g_pair {p : Addr} {x y : V} {i j : Nat} {R : L2.St → Hp → Prop} (h : SqT K H p [x, y]) (q : R ((σ.set i (some x)).set j (some y)) H) :
    gTup K 2 (gCons (gName i) (gCons (gName j) gNil)) (.ref p) σ H R := ⟨p, [x, y], rfl, h, rfl, x, [y], rfl, y, [], rfl, rfl, q⟩
end
theorem wordB_inv {x : V} (h : wordB x = true) : ∃ l, x = .str (mkS l) ∧ Wd l ∧ l.length ≤ 24 := by
  cases x with
  | str z =>
    obtain ⟨l, rfl⟩ : ∃ y, z = mkS y := ⟨_, mkS_of z⟩
    rw [wordB_str] at h
    obtain ⟨h1, h2⟩ := Bool.and_eq_true_iff.mp h
    exact ⟨l, rfl, fun c hc => (alpha_mem c).mp (of_decide_eq_true (List.all_eq_true.mp h2 c hc)), of_decide_eq_true h1⟩
  | _ => cases h
/-- check_word -/
def spCheck (C T : Addr) : Sp := fun vs H Q E => ∃ (x : V) (U : String), vs = [x] ∧ Kn H x U ∧ Sh x ∧ Tb H T ∧ (wordB x = true → Q .non H) ∧ (wordB x = false → E (.ref C) none H)
/-- of two things: words, or refused -/
def spTwoW (C T : Addr) (R : List Nat → List Nat → Hp → VK → Prop) : Sp := fun vs H Q E => ∃ (x y : V) (U W : String), vs = [x, y] ∧ Kn H x U ∧ Sh x ∧ Kn H y W ∧ Sh y ∧ Tb H T ∧
  (∀ l r, x = .str (mkS l) → y = .str (mkS r) → Wd l → Wd r → l.length ≤ 24 → r.length ≤ 24 → R l r H Q) ∧ (wordB x = false ∨ wordB y = false → ∀ H', Same H H' → E (.ref C) none H')
def wTable : List Nat → List Nat → Hp → VK → Prop := fun l r H Q => ∀ p qs H', Same H H' → H p = none → (∀ q ∈ qs, H q = none ∧ q ≠ p) → TabV H' p qs l r → Q (.ref p) H'
def wDist : List Nat → List Nat → Hp → VK → Prop := fun l r H Q => ∀ H', Same H H' → Q (.int ((Lv.lev l r : Nat))) H'
def wWay : List Nat → List Nat → Hp → VK → Prop := fun l r H Q => ∀ p xs os H', Same H H' → H p = none → H' p = some (.lst xs) → xs.length = os.length → (∀ (i : Nat) x o, xs[i]? = some x → os[i]? = some o → Cg H' x o) → ledR l os = some r → os.length = Lv.lev l r → Q (.ref p) H'
theorem kn_str {H : Hp} {l : List Nat} : Kn H (.str (mkS l)) "str" := .str _
theorem sh_str {l : List Nat} (h : l.length ≤ 1000) : Sh (.str (mkS l)) := by show (mkS l).length ≤ 1000; rw [mkS_len]; exact h
theorem spTwoW_quiet {C T : Addr} {R : List Nat → List Nat → Hp → VK → Prop} {vs : List V} {H : Hp} {Q : VK} (l r : List Nat) (e : vs = [.str (mkS l), .str (mkS r)]) (hl : Wd l) (hr : Wd r) (h1 : l.length ≤ 24) (h2 : r.length ≤ 24) (hT : Tb H T) (q : R l r H Q) : spTwoW C T R vs H Q E0 := by
  refine ⟨_, _, _, _, e, kn_str, sh_str (by omega), kn_str, sh_str (by omega), hT, fun l' r' e1 e2 _ _ _ _ => ?_, fun h => ?_⟩
  · injection e1 with e1; injection e2 with e2
    rw [← mkS_inj.mp e1, ← mkS_inj.mp e2]; exact q
  · rcases h with h | h
    · rw [wordB_wd h1 hl] at h; cases h
    · rw [wordB_wd h2 hr] at h; cases h
section
variable {P : Program} {w : World} {K : PySem.W.Frag} {mg : Str → Option Value} {base : Heap} {k : Nat} {C T : Addr} {x : Str} {ps : List Str}
/-- another promise that asks more and gives less -/
theorem Dd.weak {CX : CXT} {sp sp' : Sp} (D : Dd P w K mg base CX k x ps sp) (h : ∀ vs H Q E, sp' vs H Q E → sp vs H Q E) : Dd P w K mg base CX k x ps sp' := by
  obtain ⟨f, fd, hm, hk, hb, F, he⟩ := D.ex
  exact ⟨f, fd, hm, hk, hb, ⟨fun vs H Q E z => F.len vs H Q E (h _ _ _ _ z), fun A outer s H args us vs Q E hr e0 ha hv hs => F.run A outer s H args us vs Q E hr e0 ha hv (h _ _ _ _ hs)⟩, he⟩
theorem Dd.noX {sp sp' : Sp} (D : Dd P w K mg base (L2.CX P w) k x ps sp) (h : ∀ vs H Q E, sp' vs H Q E → sp vs H Q E0) : Dd P w K mg base CX0 k x ps sp' := by
  obtain ⟨f, fd, hm, hk, hb, F, he⟩ := D.ex
  refine ⟨f, fd, hm, hk, hb, ⟨fun vs H Q E z => F.len vs H Q E0 (h _ _ _ _ z), fun A outer s H args us vs Q E hr e0 ha hv hs => codeAny_mono (F.run A outer s H args us vs Q E0 hr e0 ha hv (h _ _ _ _ hs)) fun r s' hq => ?_⟩, he⟩
  cases r with
  | error e =>
    obtain ⟨_, _, _, _, _, _, _, _, _, _, _, _, z⟩ := hq
    exact z
  | ok fl => cases fl <;> exact hq
end
/-! ### the way from the end to the beginning -/
theorem take_last {l : List Nat} {d : Nat} (h0 : 0 < d) (h : d ≤ l.length) : l.take d = l.take (d - 1) ++ [l[d - 1]'(by omega)] := by
  obtain ⟨e, rfl⟩ : ∃ e, d = e + 1 := ⟨d - 1, by omega⟩
  rw [List.take_succ, List.getElem?_eq_getElem (by omega)]
  rfl
theorem drop_last {l : List Nat} {d : Nat} (h0 : 0 < d) (h : d ≤ l.length) : l.drop (d - 1) = l[d - 1]'(by omega) :: l.drop d := by
  rw [List.drop_eq_getElem_cons (by omega)]
  rw [show d - 1 + 1 = d by omega]
/-- the word between: l's first d letters, r's behind a -/
def mid (l r : List Nat) (d a : Nat) : List Nat := l.take d ++ r.drop a
theorem mid_len {l r : List Nat} {d a : Nat} (hd : d ≤ l.length) (ha : a ≤ r.length) : (mid l r d a).length = d + (r.length - a) := by
  unfold mid; rw [List.length_append, List.length_take, List.length_drop]; omega
theorem mid_same {l r : List Nat} {d a : Nat} (hd0 : 0 < d) (ha0 : 0 < a) (hd : d ≤ l.length) (ha : a ≤ r.length) (h : l[d - 1]'(by omega) = r[a - 1]'(by omega)) : mid l r (d - 1) (a - 1) = mid l r d a := by
  unfold mid
  rw [take_last hd0 hd, drop_last ha0 ha, h]; simp
theorem lev_same_at {l r : List Nat} {d a : Nat} (hd0 : 0 < d) (ha0 : 0 < a) (hd : d ≤ l.length) (ha : a ≤ r.length) (h : l[d - 1]'(by omega) = r[a - 1]'(by omega)) : Lv.lev (l.take d) (r.take a) = Lv.lev (l.take (d - 1)) (r.take (a - 1)) := by
  rw [take_last hd0 hd, take_last ha0 ha, h, Lv.lev_same_end]
theorem mid_get {l r : List Nat} {d a : Nat} (hd0 : 0 < d) (hd : d ≤ l.length) : (mid l r d a)[d - 1]? = some (l[d - 1]'(by omega)) := by
  unfold mid
  rw [List.getElem?_append_left (by rw [List.length_take]; omega), List.getElem?_take_of_lt (by omega), List.getElem?_eq_getElem (by omega)]
theorem mid_turn {l r : List Nat} {d a : Nat} (hd0 : 0 < d) (ha0 : 0 < a) (hd : d ≤ l.length) (ha : a ≤ r.length) : turnAt (mid l r d a) (d - 1) (r[a - 1]'(by omega)) = mid l r (d - 1) (a - 1) := by
  unfold mid turnAt
  have e : (l.take d).length = d := by rw [List.length_take]; omega
  rw [List.take_append_of_le_length (by omega), List.take_take, show d - 1 + 1 = d by omega, List.drop_append_of_le_length (by omega), List.drop_of_length_le (by omega), drop_last ha0 ha, Nat.min_eq_left (by omega)]
  simp
theorem mid_cut {l r : List Nat} {d a : Nat} (hd0 : 0 < d) (hd : d ≤ l.length) : cutAt (mid l r d a) (d - 1) = mid l r (d - 1) a := by
  unfold mid cutAt
  have e : (l.take d).length = d := by rw [List.length_take]; omega
  rw [List.take_append_of_le_length (by omega), List.take_take, show d - 1 + 1 = d by omega, List.drop_append_of_le_length (by omega), List.drop_of_length_le (by omega), Nat.min_eq_left (by omega)]
  simp
theorem mid_put {l r : List Nat} {d a : Nat} (ha0 : 0 < a) (hd : d ≤ l.length) (ha : a ≤ r.length) : putAt (mid l r d a) d (r[a - 1]'(by omega)) = mid l r d (a - 1) := by
  unfold mid putAt
  have e : (l.take d).length = d := by rw [List.length_take]; omega
  rw [List.take_append_of_le_length (by omega), List.take_take, List.drop_append_of_le_length (by omega), List.drop_of_length_le (by omega), drop_last ha0 ha, Nat.min_eq_left (by omega)]
  simp
theorem lev_last {l r : List Nat} {d a : Nat} (hd0 : 0 < d) (ha0 : 0 < a) (hd : d ≤ l.length) (ha : a ≤ r.length) (h : ¬ l[d - 1]'(by omega) = r[a - 1]'(by omega)) (h1 : ¬ Lv.lev (l.take (d - 1)) (r.take (a - 1)) + 1 = Lv.lev (l.take d) (r.take a)) (h2 : ¬ Lv.lev (l.take (d - 1)) (r.take a) + 1 = Lv.lev (l.take d) (r.take a)) :
    Lv.lev (l.take d) (r.take (a - 1)) + 1 = Lv.lev (l.take d) (r.take a) := by
  have e1 := take_last hd0 hd
  have e2 := take_last ha0 ha
  have s := Lv.lev_snoc (l.take (d - 1)) (r.take (a - 1)) (l[d - 1]'(by omega)) (r[a - 1]'(by omega))
  rw [← e1, ← e2, if_neg h] at s
  omega
end N0

/-! B18: a tree of letters in the heap. -/
namespace N0
open PySem PySem.Spec PyProof.Rows L2
theorem ltCps_iff : ∀ a b : List Nat, ltCps a b = true ↔ a < b
  | [], [] => by simp [ltCps]
  | [], _ :: _ => by simp [ltCps]
  | _ :: _, [] => by simp [ltCps]
  | a :: r, b :: t => by
    have ih := ltCps_iff r t
    simp only [ltCps, Bool.or_eq_true, Bool.and_eq_true, decide_eq_true_eq, beq_iff_eq, List.cons_lt_cons_iff, ih]
/-- the beginnings of the words W -/
def Nd (W : List (List Nat)) (p : List Nat) : Prop := p = [] ∨ ∃ w ∈ W, p <+: w
theorem Nd.root {W : List (List Nat)} : Nd W [] := .inl rfl
theorem Nd.up {W : List (List Nat)} {p : List Nat} {c : Nat} (h : Nd W (p ++ [c])) : Nd W p := by
  rcases h with h | ⟨w, hw, hp⟩
  · simp at h
  · exact .inr ⟨w, hw, (List.prefix_append p [c]).trans hp⟩
/-- where the objects of a tree stand, and the order of the letters below -/
structure Lay where
  ad : List Nat → Addr
  dx : List Nat → Addr
  bd : List Nat → Addr
  kd : List Nat → List Nat
def kidV (L : Lay) (p : List Nat) (ks : List Nat) : List (Key × V) := ks.map fun c => (Sum.inr (mkS [c]), V.ref (L.ad (p ++ [c])))
theorem valV_kid {L : Lay} {p : List Nat} {c : Nat} : ∀ ks : List Nat, valV (kidV L p ks) (Sum.inr (mkS [c]) : Key) = if c ∈ ks then some (.ref (L.ad (p ++ [c]))) else none
  | [] => rfl
  | d :: r => by
    have ih := valV_kid (L := L) (p := p) (c := c) r
    show valV ((Sum.inr (mkS [d]), V.ref (L.ad (p ++ [d]))) :: kidV L p r) (Sum.inr (mkS [c]) : Key) = _
    by_cases e : d = c
    · subst e
      rw [valV_pos rfl, if_pos (List.mem_cons_self ..)]
    · rw [valV_neg (fun z => e (by injection z with z; have := mkS_inj.mp z; injection this)), ih]
      by_cases h : c ∈ r
      · rw [if_pos h, if_pos (List.mem_cons_of_mem _ h)]
      · rw [if_neg h, if_neg (fun z => (List.mem_cons.mp z).elim (fun w => e w.symm) h)]
theorem kidV_len {L : Lay} {p : List Nat} (ks : List Nat) : (kidV L p ks).length = ks.length := by simp [kidV]
theorem kidV_drop {L : Lay} {p : List Nat} {c : Nat} (ks : List Nat) : dropK (kidV L p ks) (Sum.inr (mkS [c]) : Key) = kidV L p (ks.filter fun d => decide (d ≠ c)) := by
  unfold dropK kidV
  rw [List.filter_map]
  congr 1
  refine List.filter_congr fun d _ => ?_
  show decide ((Sum.inr (mkS [d]) : Key) ≠ Sum.inr (mkS [c])) = _
  rw [Bool.eq_iff_iff, decide_eq_true_iff, decide_eq_true_iff]
  constructor
  · intro h z; exact h (by rw [z])
  · intro h z; injection z with z; have := mkS_inj.mp z; injection this with this; exact h this
def nodeO (CN : Addr) (L : Lay) (p : List Nat) (k : Bool) : HO := .ins CN (L.dx p) [("below", .ref (L.bd p)), ("kept", .bl k)]
/-- a tree's nodes N, those of them that are words W -/
structure Trie (CN : Addr) (H : Hp) (L : Lay) (N : List Nat → Prop) (W : List (List Nat)) : Prop where
  root : N []
  up : ∀ p c, N (p ++ [c]) → N p
  kids : ∀ p, N p → ∀ c, c ∈ L.kd p ↔ N (p ++ [c])
  nod : ∀ p, N p → (L.kd p).Nodup
  wd : ∀ p, N p → Wd p
  len : ∀ p, N p → p.length ≤ 24
  inj : ∀ p q, N p → N q → L.ad p = L.ad q → p = q
  injb : ∀ p q, N p → N q → L.bd p = L.bd q → p = q
  obj : ∀ p, N p → H (L.ad p) = some (nodeO CN L p (decide (p ∈ W)))
  dic : ∀ p, N p → H (L.bd p) = some (.dK (kidV L p (L.kd p)))
section
variable {CN : Addr} {H H' : Hp} {L : Lay} {N N' : List Nat → Prop} {W W' : List (List Nat)} {p q : List Nat} {c : Nat}
theorem Trie.frame (t : Trie CN H L N W) (h : ∀ x u, H x = some u → (∃ p, N p ∧ (x = L.ad p ∨ x = L.bd p)) → H' x = some u) : Trie CN H' L N W :=
  { t with obj := fun p hp => h _ _ (t.obj p hp) ⟨p, hp, .inl rfl⟩, dic := fun p hp => h _ _ (t.dic p hp) ⟨p, hp, .inr rfl⟩ }
theorem Trie.same (t : Trie CN H L N W) (s : Same H H') : Trie CN H' L N W := t.frame fun x u e _ => s x u e
theorem Trie.congr (t : Trie CN H L N W) (hN : ∀ p, N p ↔ N' p) (hW : ∀ p, N p → (p ∈ W ↔ p ∈ W')) : Trie CN H L N' W' where
  root := (hN _).mp t.root
  up := fun p c h => (hN _).mp (t.up p c ((hN _).mpr h))
  kids := fun p h c => (t.kids p ((hN _).mpr h) c).trans (hN _)
  nod := fun p h => t.nod p ((hN _).mpr h)
  wd := fun p h => t.wd p ((hN _).mpr h)
  len := fun p h => t.len p ((hN _).mpr h)
  inj := fun p q h k => t.inj p q ((hN _).mpr h) ((hN _).mpr k)
  injb := fun p q h k => t.injb p q ((hN _).mpr h) ((hN _).mpr k)
  obj := fun p h => by
    have h' := (hN _).mpr h
    have e : decide (p ∈ W') = decide (p ∈ W) := by rw [Bool.eq_iff_iff, decide_eq_true_iff, decide_eq_true_iff]; exact (hW p h').symm
    rw [e]; exact t.obj p h'
  dic := fun p h => t.dic p ((hN _).mpr h)
theorem Trie.ab (t : Trie CN H L N W) (hp : N p) (hq : N q) : L.ad p ≠ L.bd q := fun z => by
  have h1 := t.obj p hp
  have h2 := t.dic q hq
  rw [z, h2] at h1
  cases h1
theorem Trie.pre (t : Trie CN H L N W) : ∀ (r p : List Nat), N (p ++ r) → N p
  | [], p, h => by rw [List.append_nil] at h; exact h
  | c :: r, p, h => by
    have e : p ++ c :: r = (p ++ [c]) ++ r := by simp
    rw [e] at h
    exact t.up p c (t.pre r (p ++ [c]) h)
theorem Trie.prefix_ (t : Trie CN H L N W) (h : p <+: q) (hq : N q) : N p := by obtain ⟨r, rfl⟩ := h; exact t.pre r p hq
theorem Trie.few (t : Trie CN H L N W) (hp : N p) : (L.kd p).length ≤ 26 := by
  have h1 : L.kd p ⊆ alpha := fun c hc => (alpha_mem c).mpr (t.wd _ ((t.kids p hp c).mp hc) c (by simp))
  exact (t.nod p hp).length_le_of_subset h1
/-- a word more, or one less, of what are nodes -/
theorem Trie.mark (t : Trie CN H L N W) (hp : N p) (hW : ∀ q, q ≠ p → (q ∈ W ↔ q ∈ W')) : Trie CN (upd H (L.ad p) (nodeO CN L p (decide (p ∈ W')))) L N W' :=
  { t with
    obj := fun q hq => by
      by_cases e : q = p
      · subst e; exact upd_same
      · rw [upd_ne (fun z => e (t.inj q p hq hp z)), t.obj q hq]
        have e2 : decide (q ∈ W) = decide (q ∈ W') := by rw [Bool.eq_iff_iff, decide_eq_true_iff, decide_eq_true_iff]; exact hW q e
        rw [e2]
    dic := fun q hq => by rw [upd_ne (t.ab hp hq).symm]; exact t.dic q hq }
def Lay.add (L : Lay) (p : List Nat) (c : Nat) (x dx d : Addr) : Lay where
  ad := fun q => if q = p ++ [c] then x else L.ad q
  dx := fun q => if q = p ++ [c] then dx else L.dx q
  bd := fun q => if q = p ++ [c] then d else L.bd q
  kd := fun q => if q = p ++ [c] then [] else if q = p then L.kd p ++ [c] else L.kd q
theorem snoc_inj {p q : List Nat} {c d : Nat} (h : p ++ [c] = q ++ [d]) : p = q ∧ c = d := by
  obtain ⟨h1, h2⟩ := List.append_inj' h rfl
  exact ⟨h1, by injection h2⟩
theorem snoc_ne {p : List Nat} {c : Nat} : ¬ p = p ++ [c] := fun z => by
  have := congrArg List.length z
  simp at this
theorem kidV_add {x dx d : Addr} {q ks : List Nat} (h : ∀ e ∈ ks, q ++ [e] ≠ p ++ [c]) : kidV (L.add p c x dx d) q ks = kidV L q ks := by
  refine List.map_congr_left fun e he => ?_
  show ((Sum.inr (mkS [e]) : Key), V.ref (if q ++ [e] = p ++ [c] then x else L.ad (q ++ [e]))) = _
  rw [if_neg (h e he)]
theorem Trie.add {x dx d : Addr} (t : Trie CN H L N W) (hp : N p) (hn : ¬ N (p ++ [c])) (hc : Lc c) (hl : p.length < 24) (hw : p ++ [c] ∉ W) (hx : H x = none) (hd : H d = none)
    (e1 : H' x = some (.ins CN dx [("below", .ref d), ("kept", .bl false)])) (e2 : H' d = some (.dK [])) (e3 : H' (L.bd p) = some (.dK (kidV L p (L.kd p) ++ [(Sum.inr (mkS [c]), .ref x)])))
    (st : ∀ y u, H y = some u → y ≠ L.bd p → H' y = some u) : Trie CN H' (L.add p c x dx d) (fun q => N q ∨ q = p ++ [c]) W := by
  have old : ∀ q, N q → q ≠ p ++ [c] := fun q hq z => hn (z ▸ hq)
  have ax : ∀ q, N q → L.ad q ≠ x := fun q hq z => by have := t.obj q hq; rw [z, hx] at this; cases this
  have bx : ∀ q, N q → L.bd q ≠ d := fun q hq z => by have := t.dic q hq; rw [z, hd] at this; cases this
  exact {
    root := .inl t.root
    up := fun q e h => by
      rcases h with h | h
      · exact .inl (t.up q e h)
      · obtain ⟨h1, _⟩ := snoc_inj h
        rw [h1]; exact .inl hp
    kids := fun q hq e => by
      show e ∈ (if q = p ++ [c] then [] else if q = p then L.kd p ++ [c] else L.kd q) ↔ _
      by_cases h1 : q = p ++ [c]
      · rw [if_pos h1]
        subst h1
        constructor
        · intro h; cases h
        · rintro (h | h)
          · exact absurd (t.up _ _ h) hn
          · have := congrArg List.length h; simp at this
      · rw [if_neg h1]
        have hq' : N q := hq.resolve_right h1
        by_cases h2 : q = p
        · subst h2
          rw [if_pos rfl, List.mem_append, List.mem_singleton, t.kids q hq' e]
          constructor
          · rintro (h | h)
            · exact .inl h
            · exact .inr (by rw [h])
          · rintro (h | h)
            · exact .inl h
            · exact .inr (snoc_inj h).2
        · rw [if_neg h2, t.kids q hq' e]
          constructor
          · exact .inl
          · rintro (h | h)
            · exact h
            · exact absurd (snoc_inj h).1 h2
    nod := fun q hq => by
      show (if q = p ++ [c] then [] else if q = p then L.kd p ++ [c] else L.kd q).Nodup
      by_cases h1 : q = p ++ [c]
      · rw [if_pos h1]; exact List.nodup_nil
      · rw [if_neg h1]
        have hq' : N q := hq.resolve_right h1
        by_cases h2 : q = p
        · subst h2
          rw [if_pos rfl, List.nodup_append]
          refine ⟨t.nod q hq', by simp, fun a ha b hb z => ?_⟩
          rw [List.mem_singleton.mp hb] at z
          exact hn ((t.kids q hq' c).mp (z ▸ ha))
        · rw [if_neg h2]; exact t.nod q hq'
    wd := fun q hq => by
      rcases hq with h | h
      · exact t.wd q h
      · rw [h]; exact (t.wd p hp).app (Wd.one hc)
    len := fun q hq => by
      rcases hq with h | h
      · exact t.len q h
      · rw [h, List.length_append]; show p.length + 1 ≤ 24; omega
    inj := fun a b ha hb h => by
      change (if a = p ++ [c] then x else L.ad a) = (if b = p ++ [c] then x else L.ad b) at h
      by_cases h1 : a = p ++ [c]
      · by_cases h2 : b = p ++ [c]
        · rw [h1, h2]
        · rw [if_pos h1, if_neg h2] at h
          exact absurd h.symm (ax b (hb.resolve_right h2))
      · rw [if_neg h1] at h
        by_cases h2 : b = p ++ [c]
        · rw [if_pos h2] at h
          exact absurd h (ax a (ha.resolve_right h1))
        · rw [if_neg h2] at h
          exact t.inj a b (ha.resolve_right h1) (hb.resolve_right h2) h
    injb := fun a b ha hb h => by
      change (if a = p ++ [c] then d else L.bd a) = (if b = p ++ [c] then d else L.bd b) at h
      by_cases h1 : a = p ++ [c]
      · by_cases h2 : b = p ++ [c]
        · rw [h1, h2]
        · rw [if_pos h1, if_neg h2] at h
          exact absurd h.symm (bx b (hb.resolve_right h2))
      · rw [if_neg h1] at h
        by_cases h2 : b = p ++ [c]
        · rw [if_pos h2] at h
          exact absurd h (bx a (ha.resolve_right h1))
        · rw [if_neg h2] at h
          exact t.injb a b (ha.resolve_right h1) (hb.resolve_right h2) h
    obj := fun q hq => by
      show H' (if q = p ++ [c] then x else L.ad q) = some (.ins CN (if q = p ++ [c] then dx else L.dx q) [("below", .ref (if q = p ++ [c] then d else L.bd q)), ("kept", .bl (decide (q ∈ W)))])
      by_cases h1 : q = p ++ [c]
      · rw [if_pos h1, if_pos h1, if_pos h1, e1, h1, decide_eq_false hw]
      · rw [if_neg h1, if_neg h1, if_neg h1]
        exact st _ _ (t.obj q (hq.resolve_right h1)) (t.ab (hq.resolve_right h1) hp)
    dic := fun q hq => by
      show H' (if q = p ++ [c] then d else L.bd q) = some (.dK (kidV (L.add p c x dx d) q (if q = p ++ [c] then [] else if q = p then L.kd p ++ [c] else L.kd q)))
      by_cases h1 : q = p ++ [c]
      · rw [if_pos h1, if_pos h1, e2]; rfl
      · rw [if_neg h1, if_neg h1]
        have hq' : N q := hq.resolve_right h1
        by_cases h2 : q = p
        · subst h2
          rw [if_pos rfl, e3]
          have k : kidV (L.add q c x dx d) q (L.kd q ++ [c]) = kidV (L.add q c x dx d) q (L.kd q) ++ [(Sum.inr (mkS [c]), .ref x)] := by
            unfold kidV
            rw [List.map_append]
            congr 1
            show [((Sum.inr (mkS [c]) : Key), V.ref (if q ++ [c] = q ++ [c] then x else L.ad (q ++ [c])))] = _
            rw [if_pos rfl]
          rw [k, kidV_add fun e he z => hn (z ▸ (t.kids q hq' e).mp he)]
        · rw [if_neg h2, kidV_add fun e he z => h2 (snoc_inj z).1]
          exact st _ _ (t.dic q hq') (fun z => h2 (t.injb q p hq' hp z)) }
def Lay.del (L : Lay) (p : List Nat) (c : Nat) : Lay := { L with kd := fun q => if q = p then (L.kd p).filter (fun d => decide (d ≠ c)) else L.kd q }
theorem Trie.del (t : Trie CN H L N W) (hp : N p) (hk : L.kd (p ++ [c]) = []) (hpc : N (p ++ [c])) :
    Trie CN (upd H (L.bd p) (.dK (dropK (kidV L p (L.kd p)) (Sum.inr (mkS [c]) : Key)))) (L.del p c) (fun q => N q ∧ q ≠ p ++ [c]) W where
  root := ⟨t.root, fun z => by simp at z⟩
  up := fun q e h => ⟨t.up q e h.1, fun z => by
    subst z
    have := (t.kids _ hpc e).mpr h.1
    rw [hk] at this; cases this⟩
  kids := fun q hq e => by
    show e ∈ (if q = p then (L.kd p).filter (fun d => decide (d ≠ c)) else L.kd q) ↔ _
    by_cases h : q = p
    · subst h
      rw [if_pos rfl, List.mem_filter, decide_eq_true_iff, t.kids q hq.1 e]
      exact ⟨fun ⟨a, b⟩ => ⟨a, fun z => b (snoc_inj z).2⟩, fun ⟨a, b⟩ => ⟨a, fun z => b (by rw [z])⟩⟩
    · rw [if_neg h, t.kids q hq.1 e]
      exact ⟨fun a => ⟨a, fun z => h (snoc_inj z).1⟩, fun a => a.1⟩
  nod := fun q hq => by
    show (if q = p then (L.kd p).filter (fun d => decide (d ≠ c)) else L.kd q).Nodup
    by_cases h : q = p
    · rw [if_pos h]; exact List.Pairwise.filter _ (t.nod p hp)
    · rw [if_neg h]; exact t.nod q hq.1
  wd := fun q hq => t.wd q hq.1
  len := fun q hq => t.len q hq.1
  inj := fun a b ha hb => t.inj a b ha.1 hb.1
  injb := fun a b ha hb => t.injb a b ha.1 hb.1
  obj := fun q hq => by
    show upd H (L.bd p) _ (L.ad q) = _
    rw [upd_ne (t.ab hq.1 hp)]; exact t.obj q hq.1
  dic := fun q hq => by
    show upd H (L.bd p) _ (L.bd q) = some (.dK (kidV L q (if q = p then (L.kd p).filter (fun d => decide (d ≠ c)) else L.kd q)))
    by_cases h : q = p
    · subst h
      rw [upd_same, if_pos rfl, kidV_drop]
    · rw [upd_ne (fun z => h (t.injb q p hq.1 hp z)), if_neg h]
      exact t.dic q hq.1
/-- what is at a letter below -/
theorem Trie.get (t : Trie CN H L N W) (hp : N p) : DGet H (L.bd p) (.str (mkS [c])) (if c ∈ L.kd p then some (.ref (L.ad (p ++ [c]))) else none) := by
  rw [← valV_kid]
  exact DGet.k (k := Sum.inr (mkS [c])) (t.dic p hp)
theorem Trie.get_some (t : Trie CN H L N W) (hp : N p) (h : N (p ++ [c])) : DGet H (L.bd p) (.str (mkS [c])) (some (.ref (L.ad (p ++ [c])))) := by
  have := t.get (c := c) hp
  rw [if_pos ((t.kids p hp c).mpr h)] at this
  exact this
theorem Trie.get_none (t : Trie CN H L N W) (hp : N p) (h : ¬ N (p ++ [c])) : DGet H (L.bd p) (.str (mkS [c])) none := by
  have := t.get (c := c) hp
  rw [if_neg (fun z => h ((t.kids p hp c).mp z))] at this
  exact this
end
end N0

/-! B19: classes, methods; a tree as a value. -/
namespace N0
open PySem PySem.Spec PyProof.Rows L2
/-- where the method st of the class at C stands -/
structure AtM (K : PySem.W.Frag) (C : Addr) (m q : Str) (st : Stmt) : Prop where
  ex : ∃ (f : Addr) (fd : FuncData), Meth K C m f ∧ FunD K m q (defArgs st) (defBody st) (defScope st) [] [] f fd
/-- the class's maker -/
structure AtI (K : PySem.W.Frag) (mg : Str → Option Value) (x : Str) (C : Addr) (q : Str) (st : Stmt) : Prop where
  g : mg x = some (.ref C)
  ex : ∃ (f : Addr) (fd : FuncData), Mk K C f ∧ FunD K "__init__" q (defArgs st) (defBody st) (defScope st) [] [] f fd
structure Dm (P : Program) (w : World) (K : PySem.W.Frag) (mg : Str → Option Value) (base : Heap) (CX : CXT) (k : Nat) (C : Addr) (m : Str) (ps : List Str) (sp : Sp) : Prop where
  cl : Cls K C
  ex : ∃ (f : Addr) (fd : FuncData), Meth K C m f ∧ Binds K fd ps [] ∧ FnOk P w K mg base CX k f fd ps sp
structure Di (P : Program) (w : World) (K : PySem.W.Frag) (mg : Str → Option Value) (base : Heap) (CX : CXT) (k : Nat) (x : Str) (C : Addr) (ps : List Str) (sp : Sp) : Prop where
  g : mg x = some (.ref C)
  ex : ∃ (f : Addr) (fd : FuncData), Mk K C f ∧ Binds K fd ps [] ∧ FnOk P w K mg base CX k f fd ps sp
def BindM (x q : Str) (st : Stmt) (ps : List Str) : Prop := ∀ (kV doc pm : Value) (an : Option Addr) (cdv ct : Value) (us : List Value), us.length = ps.length →
  bindArgs (PySem.W.fnOf x q (defArgs st) (defBody st) (defScope st) .none kV doc pm an cdv ct) ⟨us, []⟩ = pure (ps.zip us)
section
variable {P : Program} {w : World} {K : PySem.W.Frag} {mg : Str → Option Value} {base : Heap} {x m q : Str} {st : Stmt} {N ps : List Str} {sp sp' : Sp} {k : Nat} {C : Addr}
theorem AtM.ok (A : AtM K C m q st) (cl : Cls K C) (S : FnScope N ps (defScope st)) (hb : BindM m q st ps) (len : ∀ vs H Q E, sp vs H Q E → vs.length = ps.length)
    (hbody : ∀ (f : Addr) (cdv : Value) (A : Around) (outer : List Env) (s : Shared) (H : Hp) (vs : List V) (Q : VK) (E : XK), Room k (A.deeper (envOfC q (defScope st) s.heap.objs.size f cdv)) → sp vs H Q E →
      ∃ t, PSs (cxOf CX0 P w K mg base N q (defScope st) f cdv A outer s H E).nox (defBody st) t ∧ t { nx := fun _ H' => Q .non H', rt := Q } (start N vs) H) : Dm P w K mg base CX0 (k + 1) C m ps sp := by
  obtain ⟨f, fd, hm, F⟩ := A.ex
  refine ⟨cl, f, fd, hm, F.bindsN hb, F.ok S len (fun cdv A outer s H vs Q E hr h => ?_)⟩
  obtain ⟨t, h1, h2⟩ := hbody f cdv A outer s H vs Q E hr h
  exact ⟨t, h1.nox, h2⟩
theorem AtM.okX (A : AtM K C m q st) (cl : Cls K C) (S : FnScope N ps (defScope st)) (hb : BindM m q st ps) (len : ∀ vs H Q E, sp vs H Q E → vs.length = ps.length)
    (hbody : ∀ (f : Addr) (cdv : Value) (A : Around) (outer : List Env) (s : Shared) (H : Hp) (vs : List V) (Q : VK) (E : XK), Room k (A.deeper (envOfC q (defScope st) s.heap.objs.size f cdv)) → sp vs H Q E →
      ∃ t, PSs (cxOf (L2.CX P w) P w K mg base N q (defScope st) f cdv A outer s H E) (defBody st) t ∧ t { nx := fun _ H' => Q .non H', rt := Q } (start N vs) H) : Dm P w K mg base (L2.CX P w) (k + 1) C m ps sp := by
  obtain ⟨f, fd, hm, F⟩ := A.ex
  exact ⟨cl, f, fd, hm, F.bindsN hb, F.ok S len (fun cdv A outer s H vs Q E hr h => hbody f cdv A outer s H vs Q E hr h)⟩
theorem AtI.ok (A : AtI K mg x C q st) (S : FnScope N ps (defScope st)) (hb : BindM "__init__" q st ps) (len : ∀ vs H Q E, sp vs H Q E → vs.length = ps.length)
    (hbody : ∀ (f : Addr) (cdv : Value) (A : Around) (outer : List Env) (s : Shared) (H : Hp) (vs : List V) (Q : VK) (E : XK), Room k (A.deeper (envOfC q (defScope st) s.heap.objs.size f cdv)) → sp vs H Q E →
      ∃ t, PSs (cxOf CX0 P w K mg base N q (defScope st) f cdv A outer s H E).nox (defBody st) t ∧ t { nx := fun _ H' => Q .non H', rt := Q } (start N vs) H) : Di P w K mg base CX0 (k + 1) x C ps sp := by
  obtain ⟨f, fd, hm, F⟩ := A.ex
  refine ⟨A.g, f, fd, hm, F.bindsN hb, F.ok S len (fun cdv A outer s H vs Q E hr h => ?_)⟩
  obtain ⟨t, h1, h2⟩ := hbody f cdv A outer s H vs Q E hr h
  exact ⟨t, h1.nox, h2⟩
theorem Dm.noX (D : Dm P w K mg base (L2.CX P w) k C m ps sp) (h : ∀ vs H Q E, sp' vs H Q E → sp vs H Q E0) : Dm P w K mg base CX0 k C m ps sp' := by
  obtain ⟨f, fd, hm, hb, F⟩ := D.ex
  refine ⟨D.cl, f, fd, hm, hb, ⟨fun vs H Q E z => F.len vs H Q E0 (h _ _ _ _ z), fun A outer s H args us vs Q E hr e0 ha hv hs => codeAny_mono (F.run A outer s H args us vs Q E0 hr e0 ha hv (h _ _ _ _ hs)) fun r s' hq => ?_⟩⟩
  cases r with
  | error e =>
    obtain ⟨_, _, _, _, _, _, _, _, _, _, _, _, z⟩ := hq
    exact z
  | ok fl => cases fl <;> exact hq
end
section
variable {X : Cx} {CX : CXT} {k : Nat} {ps : List Str} {sp : Sp} {E : XK} {C : Addr} {x m : Str} {p pos apos : Pos} {o e : Expr} {es : List Expr} {ta : TE} {t : TA}
theorem pe_methD {pl : Sem Bool} (D : Dm X.prog X.w X.K X.mg X.base CX k C m ps sp) (he : PE X o ta) (hr : Room k X.A) (hx : Passes CX X E) (ha : PA X (e :: es) t)
    (hst : starEach (e :: es) X.env = (false, eval e X.env) :: starEach es X.env := by rfl) (hpl : (backTo pos (starEach es X.env)).any (·.1) = false := by rfl)
    (ht : eval (.Call (.Attribute o m apos) (e :: es) [] pos) X.env = (do
      let ov ← eval o X.env
      standAt apos.atName
      let (f, first) ← holding [ov] (getMethod ov m pl)
      callWith pos f first (backTo pos (starEach (e :: es) X.env)) (backToKw pos (keywordEach [] X.env))) := by rfl) :
    PE X (.Call (.Attribute o m apos) (e :: es) [] pos) (tMeth C m sp [] E ta t) := by
  obtain ⟨f, fd, hm, hb, F⟩ := D.ex
  exact pe_meth he D.cl hm F hr hb .nil hx ha hst hpl ht
theorem pe_methD0 {pl : Sem Bool} (D : Dm X.prog X.w X.K X.mg X.base CX k C m ps sp) (he : PE X o ta) (hr : Room k X.A) (hx : Passes CX X E)
    (ht : eval (.Call (.Attribute o m apos) [] [] pos) X.env = (do
      let ov ← eval o X.env
      standAt apos.atName
      let (f, first) ← holding [ov] (getMethod ov m pl)
      callWith pos f first (backTo pos (starEach [] X.env)) (backToKw pos (keywordEach [] X.env))) := by rfl) :
    PE X (.Call (.Attribute o m apos) [] [] pos) (tMeth C m sp [] E ta tNil) := by
  obtain ⟨f, fd, hm, hb, F⟩ := D.ex
  exact pe_meth0 he D.cl hm F hr hb .nil hx ht
def tMethE (C : Addr) (m : Str) (sp : Sp) (E : L2.St → XK) (ta : TE) (t : TA) : TE := fun σ H Q => ta σ H fun x H1 => ∃ a dx fs, x = .ref a ∧ H1 a = some (.ins C dx fs) ∧ fs.lookup m = none ∧
  t σ H1 fun vs H2 => sp (x :: vs) H2 Q (E σ)
theorem pe_methDS {E : L2.St → XK} {pl : Sem Bool} (D : Dm X.prog X.w X.K X.mg X.base CX k C m ps sp) (he : PE X o ta) (hr : Room k X.A) (hx : ∀ σ, PassesAt CX X σ (E σ)) (ha : PA X (e :: es) t)
    (hst : starEach (e :: es) X.env = (false, eval e X.env) :: starEach es X.env := by rfl) (hpl : (backTo pos (starEach es X.env)).any (·.1) = false := by rfl)
    (ht : eval (.Call (.Attribute o m apos) (e :: es) [] pos) X.env = (do
      let ov ← eval o X.env
      standAt apos.atName
      let (f, first) ← holding [ov] (getMethod ov m pl)
      callWith pos f first (backTo pos (starEach (e :: es) X.env)) (backToKw pos (keywordEach [] X.env))) := by rfl) :
    PE X (.Call (.Attribute o m apos) (e :: es) [] pos) (tMethE C m sp E ta t) := by
  obtain ⟨f, fd, hm, hb, F⟩ := D.ex
  refine ⟨fun pins s σ H Q I h => ?_⟩
  refine PySem.W.methodCall_KW (pl := pl) (thn (he.run pins s σ H _ I h) fun u s1 ⟨x, H1, I1, rx, a, dx, fs, ex, ea, l, q⟩ => ?_) ht
  subst ex
  obtain rfl : u = Value.ref a := rx
  refine getmeth_ok I1 ea D.cl hm l ?_
  refine PySem.W.callWith_K (first := [.ref a]) (h₀ := X.base) I.ok.mod.kin hm.kp (thn (ha.run pos pins s1 σ H1 _ I1 q) fun us s2 ⟨vs, H2, I2, r, q2⟩ => ⟨I2.kIn, ?_⟩) hst hpl
  exact run_fnS (us := .ref a :: us) (vs := .ref a :: vs) F hr hb (hx σ) I2 (.cons rfl r) q2
theorem pe_makeD0 (D : Di X.prog X.w X.K X.mg X.base CX k x C ps sp) (hr : Room (k + 1) X.A) (hg : Gl X x) (hx : Passes CX X E) (hdb : (x == ("__debug__" : Str)) = false := by decide) :
    PE X (.Call (.Name x p) [] [] pos) (tMake C sp [] E tNil) := by
  obtain ⟨f, fd, hm, hb, F⟩ := D.ex
  exact pe_make0 hm F hr hg D.g hb .nil hx hdb
end
/-- a value's truth -/
def tTru (K : PySem.W.Frag) (ta : TE) : TT := fun σ H Q => ta σ H fun x H' => ∃ k, TruV K x H' k ∧ Q k H'
theorem pt_tru {X : Cx} {a : Expr} {ta : TE} (ha : PE X a ta) (he : ∀ whole, isTrue a X.env whole = (do let v ← whole; standAt a.pos; holding [v] (truthy v))) : PT X a (tTru X.K ta) := pt_truth ha he
/-! ### readings -/
section
variable {K : PySem.W.Frag} {σ : L2.St} {H : Hp} {D : Ends} {Q : VK} {QB : Bool → Hp → Prop} {ta td ty tv te : TE} {t : TA} {f m : Str} {C : Addr} {sp : Sp} {E : XK} {nx bk ct : L2.St → Hp → Prop} {rt : VK} {i : Nat}
def qFld (K : PySem.W.Frag) (f : Str) (Q : VK) : VK := fun x H => ∃ a C dx fs v, x = .ref a ∧ H a = some (.ins C dx fs) ∧ Cls K C ∧ NoAttr K C f ∧ fs.lookup f = some v ∧ Q v H
theorem g_fld (h : ta σ H (qFld K f Q)) : tFld K ta f σ H Q := h
theorem g_fldI {a C dx : Addr} {fs : List (Str × V)} {v : V} (e : H a = some (.ins C dx fs)) (c : Cls K C) (n : NoAttr K C f) (l : fs.lookup f = some v) (q : Q v H) : qFld K f Q (.ref a) H := ⟨a, C, dx, fs, v, rfl, e, c, n, l, q⟩
def qSet (K : PySem.W.Frag) (f : Str) (y : V) (N : Hp → Prop) : VK := fun x H => ∃ a C dx fs, x = .ref a ∧ H a = some (.ins C dx fs) ∧ Cls K C ∧ NoAttr K C f ∧ fs.length < 1000 ∧ N (upd H a (.ins C dx (putF f y fs)))
theorem g_sfld (h : tv σ H fun y H1 => ta σ H1 (qSet K f y (nx σ))) : sFld K ta tv f (Ends.mk nx rt bk ct) σ H := h
theorem g_setI {a C dx : Addr} {fs : List (Str × V)} {y : V} {N : Hp → Prop} (e : H a = some (.ins C dx fs)) (c : Cls K C) (n : NoAttr K C f) (l : fs.length < 1000) (q : N (upd H a (.ins C dx (putF f y fs)))) : qSet K f y N (.ref a) H := ⟨a, C, dx, fs, rfl, e, c, n, l, q⟩
theorem g_fldaug {rd : V → V → Hp → VK → Prop} (h : ta σ H fun x H1 => ∃ a C dx fs v, x = .ref a ∧ H1 a = some (.ins C dx fs) ∧ Cls K C ∧ NoAttr K C f ∧ fs.lookup f = some v ∧
  tv σ H1 fun y H2 => rd v y H2 fun z H3 => ∃ dx' fs', H3 a = some (.ins C dx' fs') ∧ fs'.length < 1000 ∧ nx σ (upd H3 a (.ins C dx' (putF f z fs')))) : sFldAug K ta tv rd f (Ends.mk nx rt bk ct) σ H := h
def qAt (Q : VK) (x : V) : VK := fun y H2 => ∃ a v, x = .ref a ∧ DGet H2 a y (some v) ∧ Q v H2
theorem g_dget (h : td σ H fun x H1 => ty σ H1 (qAt Q x)) : tDGet td ty σ H Q := h
def qNotin (Q : VK) (y : V) : VK := fun x H2 => ∃ a o, x = .ref a ∧ DGet H2 a y o ∧ Q (.bl (!o.isSome)) H2
theorem g_dnotin (h : ty σ H fun y H1 => td σ H1 (qNotin Q y)) : tDNotIn ty td σ H Q := h
def qIn (Q : VK) (y : V) : VK := fun x H2 => ∃ a o, x = .ref a ∧ DGet H2 a y o ∧ Q (.bl o.isSome) H2
theorem g_din (h : ty σ H fun y H1 => td σ H1 (qIn Q y)) : tDIn ty td σ H Q := h
def qDput (N : Hp → Prop) (v x : V) : VK := fun y H3 => ∃ a H4, x = .ref a ∧ DPut H3 a y v H4 ∧ N H4
theorem g_dput (h : tv σ H fun v H1 => td σ H1 fun x H2 => ty σ H2 (qDput (nx σ) v x)) : sDPut td ty tv (Ends.mk nx rt bk ct) σ H := h
def qDdel (N : Hp → Prop) (x : V) : VK := fun y H2 => ∃ a kvs k, x = .ref a ∧ H2 a = some (.dK kvs) ∧ y = kV k ∧ (valV kvs k).isSome = true ∧ N (upd H2 a (.dK (dropK kvs k)))
theorem g_ddel (h : td σ H fun x H1 => ty σ H1 (qDdel (nx σ) x)) : sDDel td ty (Ends.mk nx rt bk ct) σ H := h
theorem g_meth (h : ta σ H fun x H1 => ∃ a dx fs, x = .ref a ∧ H1 a = some (.ins C dx fs) ∧ fs.lookup m = none ∧ t σ H1 fun vs H2 => sp (x :: vs) H2 Q E) : tMeth C m sp [] E ta t σ H Q := by
  have e : (fun x H1 => ∃ a dx fs, x = .ref a ∧ H1 a = some (.ins C dx fs) ∧ fs.lookup m = none ∧ t σ H1 fun vs H2 => sp (x :: (vs ++ [])) H2 Q E) = fun x H1 => ∃ a dx fs, x = .ref a ∧ H1 a = some (.ins C dx fs) ∧ fs.lookup m = none ∧ t σ H1 fun vs H2 => sp (x :: vs) H2 Q E := by
    funext x H1; simp only [List.append_nil]
  show ta σ H fun x H1 => ∃ a dx fs, x = .ref a ∧ H1 a = some (.ins C dx fs) ∧ fs.lookup m = none ∧ t σ H1 fun vs H2 => sp (x :: (vs ++ [])) H2 Q E
  rw [e]; exact h
theorem g_methE {E : L2.St → XK} (h : ta σ H fun x H1 => ∃ a dx fs, x = .ref a ∧ H1 a = some (.ins C dx fs) ∧ fs.lookup m = none ∧ t σ H1 fun vs H2 => sp (x :: vs) H2 Q (E σ)) : tMethE C m sp E ta t σ H Q := h
theorem g_make (h : ∀ x dx, H x = none → H dx = none → dx ≠ x → sp [.ref x] (upd (upd H dx (.own x)) x (.ins C dx [])) (fun v H2 => v = .non ∧ Q (.ref x) H2) E) : tMake C sp [] E tNil σ H Q := h
theorem g_dnew (h : ∀ p, H p = none → Q (.ref p) (upd H p (.dK []))) : tDNewK σ H Q := h
theorem g_truth (h : te σ H fun x H1 => ∃ k, TruV K x H1 k ∧ QB k H1) : tTru K te σ H QB := h
end
/-! ### a tree -/
structure NodeC (K : PySem.W.Frag) (CN : Addr) : Prop where
  cl : Cls K CN
  nb : NoAttr K CN "below"
  nk : NoAttr K CN "kept"
structure TreeC (K : PySem.W.Frag) (CT : Addr) : Prop where
  cl : Cls K CT
  nt : NoAttr K CT "_top"
  nm : NoAttr K CT "_many"
/-- H' is as H but at F -/
def Off (F : Addr → Prop) (H H' : Hp) : Prop := ∀ x u, H x = some u → ¬ F x → H' x = some u
/-- neither an instance nor a dict -/
def Plain : HO → Prop
  | .ins _ _ _ => False
  | .dK _ => False
  | _ => True
def Keep (H H' : Hp) : Prop := ∀ x u, H x = some u → Plain u → H' x = some u
def treeO (CT dt : Addr) (L : Lay) (n : Nat) : HO := .ins CT dt [("_top", .ref (L.ad [])), ("_many", .int (n : Nat))]
structure TreeV (CN CT : Addr) (H : Hp) (t : Addr) (W : List (List Nat)) (F : Addr → Prop) : Prop where
  ex : ∃ (L : Lay) (dt : Addr), H t = some (treeO CT dt L W.length) ∧ Trie CN H L (Nd W) W ∧ ∀ p, Nd W p → F (L.ad p) ∧ F (L.bd p)
  me : F t
  nd : W.Nodup
  kind : ∀ x, F x → ∃ u, H x = some u ∧ ¬ Plain u
section
variable {CN CT : Addr} {H H' H2 : Hp} {t : Addr} {W : List (List Nat)} {F G : Addr → Prop}
theorem Same.off (s : Same H H') : Off F H H' := fun x u e _ => s x u e
theorem Off.keep (o : Off F H H') (h : ∀ x, F x → ∃ u, H x = some u ∧ ¬ Plain u) : Keep H H' := fun x u e pl => o x u e fun z => by
  obtain ⟨u', e', n⟩ := h x z
  rw [e] at e'
  injection e' with e'
  exact n (e' ▸ pl)
theorem Same.keep (s : Same H H') : Keep H H' := fun x u e _ => s x u e
theorem Keep.trans (a : Keep H H') (b : Keep H' H2) : Keep H H2 := fun x u e pl => b x u (a x u e pl) pl
theorem Keep.tb {T : Addr} (k : Keep H H') (h : Tb H T) : Tb H' T := k T _ h trivial
theorem Keep.lst {a : Addr} {xs : List V} (k : Keep H H') (h : H a = some (.lst xs)) : H' a = some (.lst xs) := k a _ h trivial
theorem Keep.seq {K : PySem.W.Frag} {a : Addr} {xs : List V} (k : Keep H H') (h : SqL K H a xs) : SqL K H' a xs := by
  rcases h with (h | ⟨o, h⟩) | h
  · exact .inl (.inl (k _ _ h trivial))
  · exact .inl (.inr ⟨o, k _ _ h trivial⟩)
  · exact .inr h
theorem TreeV.off (v : TreeV CN CT H t W F) (o : ∀ x u, H x = some u → F x → H' x = some u) : TreeV CN CT H' t W F := by
  obtain ⟨L, dt, e, tr, hf⟩ := v.ex
  refine ⟨⟨L, dt, o _ _ e v.me, tr.frame fun x u hx ⟨p, hp, z⟩ => o x u hx ?_, hf⟩, v.me, v.nd, fun x hx => ?_⟩
  · rcases z with rfl | rfl
    · exact (hf p hp).1
    · exact (hf p hp).2
  · obtain ⟨u, e, n⟩ := v.kind x hx
    exact ⟨u, o x u e hx, n⟩
theorem TreeV.same (v : TreeV CN CT H t W F) (s : Same H H') : TreeV CN CT H' t W F := v.off fun x u e _ => s x u e
theorem TreeV.other (v : TreeV CN CT H t W F) (o : Off G H H') (d : ∀ x, F x → ¬ G x) : TreeV CN CT H' t W F := v.off fun x u e hf => o x u e (d x hf)
theorem TreeV.there (v : TreeV CN CT H t W F) {x : Addr} (h : F x) : H x ≠ none := by obtain ⟨u, e, _⟩ := v.kind x h; rw [e]; exact nofun
theorem TreeV.word (v : TreeV CN CT H t W F) {w : List Nat} (h : w ∈ W) : Wd w ∧ w.length ≤ 24 := by
  obtain ⟨L, dt, e, tr, hf⟩ := v.ex
  have n : Nd W w := .inr ⟨w, h, List.prefix_refl w⟩
  exact ⟨tr.wd w n, tr.len w n⟩
end
end N0

/-! B20: what the tree's defs promise. -/
namespace N0
open PySem PySem.Spec PyProof.Rows L2
abbrev fs2 (f : Str) (b : V) (g : Str) (k : V) : List (Str × V) := [(f, b), (g, k)]
abbrev fs1 (f : Str) (b : V) : List (Str × V) := [(f, b)]
theorem putF_0 {f : Str} {v : V} : putF f v [] = fs1 f v := rfl
theorem putF_1 {f g : Str} {b v : V} (h : ¬ f = g) : putF g v (fs1 f b) = fs2 f b g v := by
  simp only [fs1, putF, if_neg h]
theorem putF_2 {f g : Str} {b k v : V} (h : ¬ f = g) : putF g v (fs2 f b g k) = fs2 f b g v := by
  simp only [fs2, putF, if_neg h, if_true]
theorem lk_1 {f g : Str} {b k : V} : List.lookup f (fs2 f b g k) = some b := by simp [fs2, List.lookup]
theorem lk_2 {f g : Str} {b k : V} (h : ¬ f = g) : List.lookup g (fs2 f b g k) = some k := by
  have e : (g == f) = false := beq_eq_false_iff_ne.mpr fun z => h z.symm
  simp [fs2, List.lookup, e]
theorem lk_below {b k : V} : List.lookup ("below" : Str) (fs2 "below" b "kept" k) = some b := lk_1
theorem lk_kept {b k : V} : List.lookup ("kept" : Str) (fs2 "below" b "kept" k) = some k := lk_2 (by decide)
theorem lk_top {b k : V} : List.lookup ("_top" : Str) (fs2 "_top" b "_many" k) = some b := lk_1
theorem lk_many {b k : V} : List.lookup ("_many" : Str) (fs2 "_top" b "_many" k) = some k := lk_2 (by decide)
theorem putF_kept0 {b v : V} : putF "kept" v (fs1 "below" b) = fs2 "below" b "kept" v := putF_1 (by decide)
theorem putF_kept {b k v : V} : putF "kept" v (fs2 "below" b "kept" k) = fs2 "below" b "kept" v := putF_2 (by decide)
theorem putF_many0 {b v : V} : putF "_many" v (fs1 "_top" b) = fs2 "_top" b "_many" v := putF_1 (by decide)
theorem putF_many {b k v : V} : putF "_many" v (fs2 "_top" b "_many" k) = fs2 "_top" b "_many" v := putF_2 (by decide)
/-- a tree has no field of that name -/
def NotF (m : Str) : Bool := decide (m ≠ "_top") && decide (m ≠ "_many")
theorem lk_not {m : Str} {b k : V} (h : NotF m = true) : List.lookup m (fs2 "_top" b "_many" k) = none := by
  obtain ⟨h1, h2⟩ := Bool.and_eq_true_iff.mp h
  have h1 := beq_eq_false_iff_ne.mpr (of_decide_eq_true h1)
  have h2 := beq_eq_false_iff_ne.mpr (of_decide_eq_true h2)
  simp [fs2, List.lookup, h1, h2]
/-! ### promises -/
section
variable (CN CT CW CF T : Addr)
def spNodeI : Sp := fun vs H Q _ => ∃ x dx, vs = [.ref x] ∧ H x = some (.ins CN dx []) ∧ ∀ d H', H d = none → H' x = some (.ins CN dx [("below", .ref d), ("kept", .bl false)]) → H' d = some (.dK []) →
  (∀ y u, H y = some u → y ≠ x → H' y = some u) → Q .non H'
def spTreeI : Sp := fun vs H Q _ => ∃ t dt, vs = [.ref t] ∧ H t = some (.ins CT dt []) ∧ ∀ H' F', TreeV CN CT H' t [] F' → (∀ y, F' y → y = t ∨ H y = none) → (∀ y u, H y = some u → y ≠ t → H' y = some u) → Q .non H'
/-- how far a word goes down -/
structure Goes (N : List Nat → Prop) (l : List Nat) (j : Nat) : Prop where
  le : j ≤ l.length
  down : ∀ i, i ≤ j → N (l.take i)
  stop : j = l.length ∨ ¬ N (l.take (j + 1))
def pathV (L : Lay) (l : List Nat) (j : Nat) : List V := (List.range (j + 1)).map fun i => V.ref (L.ad (l.take i))
def spPath : Sp := fun vs H Q _ => ∃ (L : Lay) (N : List Nat → Prop) (W : List (List Nat)) (l : List Nat), vs = [.ref (L.ad []), .str (mkS l)] ∧ l.length ≤ 1000 ∧ Trie CN H L N W ∧
  ∀ j D H', Goes N l j → Same H H' → H D = none → H' D = some (.lst (pathV L l j)) → Q (.ref D) H'
/-- of a tree and a thing -/
def spTW (R : Addr → List (List Nat) → (Addr → Prop) → List Nat → Hp → VK → XK → Prop) : Sp := fun vs H Q E => ∃ (t : Addr) (x : V) (U : String) (W : List (List Nat)) (F : Addr → Prop), vs = [.ref t, x] ∧ Kn H x U ∧ Sh x ∧ Tb H T ∧ TreeV CN CT H t W F ∧
  (∀ l, x = .str (mkS l) → Wd l → l.length ≤ 24 → R t W F l H Q E) ∧ (wordB x = false → ∀ H', Same H H' → E (.ref CW) none H')
def wHas : Addr → List (List Nat) → (Addr → Prop) → List Nat → Hp → VK → XK → Prop := fun _ W _ l H Q _ => ∀ H', Same H H' → Q (.bl (decide (l ∈ W))) H'
def wPut : Addr → List (List Nat) → (Addr → Prop) → List Nat → Hp → VK → XK → Prop := fun t W F l H Q E =>
  (l ∈ W → ∀ H', Same H H' → Q (.bl false) H') ∧
  (l ∉ W → W.length < 400 → ∀ H' F', Off F H H' → TreeV CN CT H' t (W ++ [l]) F' → (∀ y, F' y → F y ∨ H y = none) → Q (.bl true) H') ∧
  (l ∉ W → 400 ≤ W.length → ∀ H', Same H H' → E (.ref CF) none H')
def less (W : List (List Nat)) (l : List Nat) : List (List Nat) := W.filter fun w => decide (w ≠ l)
def wTake : Addr → List (List Nat) → (Addr → Prop) → List Nat → Hp → VK → XK → Prop := fun t W F l H Q _ =>
  (l ∉ W → ∀ H', Same H H' → Q (.bl false) H') ∧
  (l ∈ W → ∀ H', Off F H H' → TreeV CN CT H' t (less W l) F → Q (.bl true) H')
/-- the words of W that begin with p, in order -/
structure Begun (W : List (List Nat)) (p : List Nat) (ys : List (List Nat)) : Prop where
  up : ys.Pairwise (· < ·)
  mem : ∀ w, w ∈ ys ↔ w ∈ W ∧ p <+: w
def wordsV (ys : List (List Nat)) : List V := ys.map fun y => V.str (mkS y)
def wBegun : Addr → List (List Nat) → (Addr → Prop) → List Nat → Hp → VK → XK → Prop := fun _ W _ p H Q _ => W.length ≤ 400 ∧ ∀ ys D H', Begun W p ys → Same H H' → H D = none → H' D = some (.lst (wordsV ys)) → Q (.ref D) H'
def spWords : Sp := fun vs H Q _ => ∃ (t : Addr) (W : List (List Nat)) (F : Addr → Prop), vs = [.ref t] ∧ TreeV CN CT H t W F ∧ W.length ≤ 400 ∧ ∀ ys D H', Begun W [] ys → Same H H' → H D = none → H' D = some (.lst (wordsV ys)) → Q (.ref D) H'
def spMany : Sp := fun vs H Q _ => ∃ (t : Addr) (W : List (List Nat)) (F : Addr → Prop), vs = [.ref t] ∧ TreeV CN CT H t W F ∧ Q (.int (W.length : Nat)) H
def spTop : Sp := fun vs H Q _ => ∃ (t : Addr) (W : List (List Nat)) (F : Addr → Prop), vs = [.ref t] ∧ TreeV CN CT H t W F ∧ ∀ L : Lay, Trie CN H L (Nd W) W → Q (.ref (L.ad [])) H
/-- the words from a node on; j: the letters that may follow -/
def spFrom (j : Nat) : Sp := fun vs H Q _ => ∃ (L : Lay) (N : List Nat → Prop) (W : List (List Nat)) (p : List Nat), vs = [.ref (L.ad p), .str (mkS p)] ∧ Trie CN H L N W ∧ N p ∧ (∀ w ∈ W, N w) ∧ 24 ≤ p.length + j ∧ W.length ≤ 400 ∧
  ∀ ys D H', Begun W p ys → Same H H' → H D = none → H' D = some (.lst (wordsV ys)) → Q (.ref D) H'
/-- what is left of the word's beginnings -/
def spPrune : Sp := fun vs H Q _ => ∃ (L : Lay) (W : List (List Nat)) (l : List Nat) (D : Addr), vs = [.ref D, .str (mkS l)] ∧ l.length ≤ 24 ∧ H D = some (.lst (pathV L l l.length)) ∧ Trie CN H L (fun q => Nd W q ∨ q <+: l) W ∧
  ∀ H' L', (∀ p, L'.ad p = L.ad p) → (∀ p, L'.bd p = L.bd p) → Trie CN H' L' (Nd W) W → (∀ x u, H x = some u → (∀ i, i < l.length → x ≠ L.bd (l.take i)) → H' x = some u) → (∀ i, i < l.length → ∃ kvs, H' (L.bd (l.take i)) = some (.dK kvs)) → Q .non H'
end
/-! ### fields -/
section
variable {K : PySem.W.Frag} {CN CT dt t : Addr} {H : Hp} {L : Lay} {N : List Nat → Prop} {W : List (List Nat)} {p : List Nat} {n : Nat} {Q : VK}
theorem g_below (c : NodeC K CN) (t : Trie CN H L N W) (hp : N p) (q : Q (.ref (L.bd p)) H) : qFld K "below" Q (.ref (L.ad p)) H := g_fldI (t.obj p hp) c.cl c.nb lk_below q
theorem g_kept (c : NodeC K CN) (t : Trie CN H L N W) (hp : N p) (q : Q (.bl (decide (p ∈ W))) H) : qFld K "kept" Q (.ref (L.ad p)) H := g_fldI (t.obj p hp) c.cl c.nk lk_kept q
theorem g_top (c : TreeC K CT) (e : H t = some (treeO CT dt L n)) (q : Q (.ref (L.ad [])) H) : qFld K "_top" Q (.ref t) H := g_fldI e c.cl c.nt lk_top q
theorem g_many (c : TreeC K CT) (e : H t = some (treeO CT dt L n)) (q : Q (.int (n : Nat)) H) : qFld K "_many" Q (.ref t) H := g_fldI e c.cl c.nm lk_many q
end
/-! ### new ones -/
section
variable {CN CT : Addr} {σ : L2.St} {H : Hp} {Q : VK} {E : XK}
theorem g_newNode (h : ∀ x dx d H', H x = none → H d = none → H' x = some (.ins CN dx [("below", .ref d), ("kept", .bl false)]) → H' d = some (.dK []) → Same H H' → Q (.ref x) H') : tMake CN (spNodeI CN) [] E tNil σ H Q := by
  refine g_make fun x dx hx hdx hne => ⟨x, dx, rfl, upd_same, fun d H' hd h1 h2 h3 => ⟨rfl, ?_⟩⟩
  have s : Same H (upd (upd H dx (.own x)) x (.ins CN dx [])) := (Same.new hdx).trans (Same.new (by rw [upd_ne (fun z => hne z.symm)]; exact hx))
  exact h x dx d H' hx (s.free hd) h1 h2 fun y u e => h3 y u (s _ _ e) (fun z => by rw [z, hx] at e; cases e)
theorem g_newTree (h : ∀ t H' F', Same H H' → TreeV CN CT H' t [] F' → (∀ y, F' y → H y = none) → Q (.ref t) H') : tMake CT (spTreeI CN CT) [] E tNil σ H Q := by
  refine g_make fun t dt hx hdx hne => ⟨t, dt, rfl, upd_same, fun H' F' v hF st => ⟨rfl, ?_⟩⟩
  have s : Same H (upd (upd H dt (.own t)) t (.ins CT dt [])) := (Same.new hdx).trans (Same.new (by rw [upd_ne (fun z => hne z.symm)]; exact hx))
  refine h t H' F' (fun y u e => st y u (s _ _ e) (fun z => by rw [z, hx] at e; cases e)) v fun y hy => ?_
  rcases hF y hy with rfl | z
  · exact hx
  · exact s.free z
end
section
variable {CN CT : Addr} {H H' : Hp} {t x d dt dx : Addr}
theorem tree_new (h1 : H t = some (.ins CT dt [("_top", .ref x), ("_many", .int 0)])) (h2 : H x = some (.ins CN dx [("below", .ref d), ("kept", .bl false)])) (h3 : H d = some (.dK [])) : TreeV CN CT H t [] (fun y => y = t ∨ y = x ∨ y = d) := by
  have root : ∀ p, Nd [] p → p = [] := fun p h => h.elim id fun ⟨w, hw, _⟩ => nomatch hw
  refine ⟨⟨⟨fun _ => x, fun _ => dx, fun _ => d, fun _ => []⟩, dt, h1, ⟨Nd.root, fun p c h => Nd.up h, fun p hp c => ⟨fun z => (List.not_mem_nil z).elim, fun z => absurd (root _ z) (by simp)⟩, fun _ _ => List.nodup_nil, fun p hp => by rw [root p hp]; exact Wd.nil,
    fun p hp => by rw [root p hp]; exact Nat.zero_le _, fun p q hp hq _ => by rw [root p hp, root q hq], fun p q hp hq _ => by rw [root p hp, root q hq], fun p hp => h2, fun p hp => h3⟩, fun p _ => ⟨.inr (.inl rfl), .inr (.inr rfl)⟩⟩, .inl rfl, List.nodup_nil, fun y hy => ?_⟩
  rcases hy with rfl | rfl | rfl
  · exact ⟨_, h1, id⟩
  · exact ⟨_, h2, id⟩
  · exact ⟨_, h3, id⟩
end
theorem less_len {W : List (List Nat)} {l : List Nat} (nd : W.Nodup) (h : l ∈ W) : ((less W l).length : Int) = (W.length : Int) - 1 := by
  have key : ∀ W : List (List Nat), W.Nodup → l ∈ W → (less W l).length + 1 = W.length := by
    intro W
    induction W with
    | nil => intro _ h; cases h
    | cons a r ih =>
      intro nd h
      obtain ⟨n1, n2⟩ := List.nodup_cons.mp nd
      unfold less
      by_cases e : a = l
      · subst e
        rw [List.filter_cons_of_neg (by simp), List.filter_eq_self.mpr (fun w hw => by simp; exact fun z => n1 (z ▸ hw))]; rfl
      · rw [List.filter_cons_of_pos (by simpa using e), List.length_cons, List.length_cons]
        have := ih n2 ((List.mem_cons.mp h).resolve_left fun z => e z.symm)
        unfold less at this; omega
  have := key W nd h
  omega
theorem less_mem {W : List (List Nat)} {l w : List Nat} : w ∈ less W l ↔ w ∈ W ∧ w ≠ l := by unfold less; rw [List.mem_filter, decide_eq_true_iff]
end N0

/-! B21: paths, letters in order, words from a node. -/
namespace N0
open PySem PySem.Spec PyProof.Rows L2
section
variable {CN : Addr} {H : Hp} {L : Lay} {N : List Nat → Prop} {W : List (List Nat)} {p : List Nat} {c : Nat} {Q : VK}
theorem g_inYes (t : Trie CN H L N W) (hp : N p) (h : N (p ++ [c])) (q : Q (.bl false) H) : qNotin Q (.str (mkS [c])) (.ref (L.bd p)) H := ⟨_, _, rfl, t.get_some hp h, q⟩
theorem g_inNo (t : Trie CN H L N W) (hp : N p) (h : ¬ N (p ++ [c])) (q : Q (.bl true) H) : qNotin Q (.str (mkS [c])) (.ref (L.bd p)) H := ⟨_, _, rfl, t.get_none hp h, q⟩
theorem g_at (t : Trie CN H L N W) (hp : N p) (h : N (p ++ [c])) (q : Q (.ref (L.ad (p ++ [c]))) H) : qAt Q (.ref (L.bd p)) (.str (mkS [c])) H := ⟨_, _, rfl, t.get_some hp h, q⟩
end
theorem g_revR {σ : L2.St} {H : Hp} {R : It → Hp → Prop} {tr : L2.St → Hp → (Int → Int → Hp → Prop) → Prop} (h : tr σ H fun a b H1 => -(2 ^ 62) ≤ a ∧ a < 2 ^ 62 ∧ -(2 ^ 62) ≤ b ∧ b < 2 ^ 62 ∧ R (Itc (a + (((b - a).toNat : Nat) : Int) - 1) (-1) (b - a).toNat) H1) : iRevR tr σ H R := h
theorem g_rg1 {σ : L2.St} {H : Hp} {Q : Int → Int → Hp → Prop} {ta : TE} (h : ta σ H fun x H1 => ∃ n, x = .int n ∧ Q 0 n H1) : tRg1 ta σ H Q := h
theorem g_tgtF {σ : L2.St} {H : Hp} {i : Nat} {v : V} {A : L2.St → Hp → Prop} (h : A (σ.set i (some v)) H) : gName i v σ H A := h
theorem pathV_len {L : Lay} {l : List Nat} {j : Nat} : (pathV L l j).length = j + 1 := by simp [pathV]
theorem pathV_get {L : Lay} {l : List Nat} {i j : Nat} (h : i ≤ j) : (pathV L l j)[i]? = some (.ref (L.ad (l.take i))) := by
  unfold pathV
  rw [List.getElem?_map, List.getElem?_range (by omega)]; rfl
theorem pathV_snoc {L : Lay} {l : List Nat} {j : Nat} : pathV L l (j + 1) = pathV L l j ++ [.ref (L.ad (l.take (j + 1)))] := by
  unfold pathV
  rw [List.range_succ, List.map_append]; rfl
theorem take_snoc {l : List Nat} {i c : Nat} (h : l[i]? = some c) : l.take (i + 1) = l.take i ++ [c] := by rw [List.take_succ, h]; rfl
theorem Goes.full {N : List Nat → Prop} {l : List Nat} {j : Nat} (g : Goes N l j) (h : ∀ p, p <+: l → N p) : j = l.length := g.stop.resolve_right fun n => n (h _ (List.take_prefix _ _))
/-! ### letters in order -/
theorem str_lt1 {a b : Nat} : ltCps (mkS [a]).cps.toList (mkS [b]).cps.toList = decide (a < b) := by
  rw [mkS_cps, mkS_cps]
  simp [ltCps]
theorem rising_letters : ∀ (cs : List Nat) (a : Nat), risingS (mkS [a]) (cs.map fun c => mkS [c]) = true → (a :: cs).Pairwise (· ≤ ·)
  | [], a, _ => by simp
  | b :: r, a, h => by
    change (!ltCps (mkS [b]).cps.toList (mkS [a]).cps.toList && risingS (mkS [b]) (r.map fun c => mkS [c])) = true at h
    rw [str_lt1] at h
    obtain ⟨h1, h2⟩ := Bool.and_eq_true_iff.mp h
    have ih := rising_letters r b h2
    have hab : a ≤ b := by simp at h1; exact h1
    obtain ⟨h3, h4⟩ := List.pairwise_cons.mp ih
    exact List.pairwise_cons.mpr ⟨fun x hx => (List.mem_cons.mp hx).elim (fun e => e ▸ hab) fun hx => Nat.le_trans hab (h3 x hx), ih⟩
theorem sorted_letters {ys : List Str} {ks : List Nat} (hp : ys.Perm (ks.map fun c => mkS [c])) (hs : sortedS ys = true) (nd : ks.Nodup) : ∃ cs : List Nat, ys = cs.map (fun c => mkS [c]) ∧ cs.Pairwise (· < ·) ∧ ∀ c, c ∈ cs ↔ c ∈ ks := by
  have inj : ∀ a b : Nat, mkS [a] = mkS [b] → a = b := fun a b z => by have := mkS_inj.mp z; injection this
  have hm : ∀ y ∈ ys, ∃ c, y = mkS [c] := fun y hy => by
    obtain ⟨c, _, e⟩ := List.mem_map.mp (hp.mem_iff.mp hy)
    exact ⟨c, e.symm⟩
  obtain ⟨cs, rfl⟩ : ∃ cs : List Nat, ys = cs.map fun c => mkS [c] := by
    clear hp hs
    induction ys with
    | nil => exact ⟨[], rfl⟩
    | cons y r ih =>
      obtain ⟨c, rfl⟩ := hm y (List.mem_cons_self ..)
      obtain ⟨cs, rfl⟩ := ih fun y hy => hm y (List.mem_cons_of_mem _ hy)
      exact ⟨c :: cs, rfl⟩
  have mem : ∀ c, c ∈ cs ↔ c ∈ ks := fun c => by
    have e : ∀ zs : List Nat, c ∈ zs ↔ mkS [c] ∈ zs.map (fun c => mkS [c]) := fun zs => by
      rw [List.mem_map]
      exact ⟨fun h => ⟨c, h, rfl⟩, fun ⟨d, hd, z⟩ => by rw [← inj d c z]; exact hd⟩
    rw [e cs, e ks]; exact hp.mem_iff
  have nd2 : (cs.map fun c => mkS [c]).Nodup := hp.nodup_iff.mpr (List.Pairwise.map _ (fun a b h z => h (inj a b z)) nd)
  have le : cs.Pairwise (· ≤ ·) := by
    cases cs with
    | nil => exact List.Pairwise.nil
    | cons a r => exact rising_letters r a hs
  have nd3 : cs.Nodup := by
    have := List.pairwise_map.mp nd2
    exact this.imp fun h z => h (by rw [z])
  refine ⟨cs, rfl, ?_, mem⟩
  have both := le.and nd3
  exact both.imp fun h => by
    have h1 := h.1
    have h2 : ¬ _ = _ := h.2
    omega
def qSortD : List V → Hp → VK → Prop := fun xs H Q => ∃ (a : Addr) (kvs : List (Key × V)) (ks : List Str), xs = [.ref a] ∧ Rd H a (.dK kvs) ∧ kvs.map (·.1) = ks.map Sum.inr ∧ ks.length < 64 ∧ ∀ ys p, ys.Perm ks → sortedS ys = true → H p = none → Q (.ref p) (upd H p (.lst (ys.map V.str)))
theorem c_sortedD {X : Cx} (hc : X.calm = true) : CallR X (.builtin "sorted") qSortD := call_sortedD hc
theorem g_sortedD {CN : Addr} {H : Hp} {L : Lay} {N : List Nat → Prop} {W : List (List Nat)} {p : List Nat} {Q : VK} (t : Trie CN H L N W) (hp : N p)
    (q : ∀ (cs : List Nat) D, cs.Pairwise (· < ·) → (∀ c, c ∈ cs ↔ N (p ++ [c])) → H D = none → Q (.ref D) (upd H D (.lst (cs.map fun c => V.str (mkS [c]))))) : qSortD [.ref (L.bd p)] H Q := by
  refine ⟨_, _, (L.kd p).map fun c => mkS [c], rfl, .inl (t.dic p hp), ?_, by rw [List.length_map]; have := t.few hp; omega, fun ys D h1 h2 h3 => ?_⟩
  · unfold kidV
    rw [List.map_map, List.map_map]; rfl
  · obtain ⟨cs, rfl, h4, h5⟩ := sorted_letters h1 h2 (t.nod p hp)
    rw [List.map_map]
    exact q cs D h4 (fun c => (h5 c).trans (t.kids p hp c)) h3
/-! ### words in order -/
theorem lt_ext (p : List Nat) (c : Nat) (r : List Nat) : p < p ++ c :: r := by
  induction p with
  | nil => exact List.nil_lt_cons _ _
  | cons a p ih => exact List.cons_lt_cons_iff.mpr (.inr ⟨rfl, ih⟩)
theorem lt_side (p : List Nat) {c d : Nat} (h : c < d) (r s : List Nat) : p ++ c :: r < p ++ d :: s := by
  induction p with
  | nil => exact List.cons_lt_cons_iff.mpr (.inl h)
  | cons a p ih => exact List.cons_lt_cons_iff.mpr (.inr ⟨rfl, ih⟩)
/-- the words behind the first letters of cs -/
structure Upto (W : List (List Nat)) (p : List Nat) (cs : List Nat) (ys : List (List Nat)) : Prop where
  up : ys.Pairwise (· < ·)
  mem : ∀ w, w ∈ ys ↔ w ∈ W ∧ (w = p ∨ ∃ c ∈ cs, p ++ [c] <+: w)
theorem Upto.zero {W : List (List Nat)} {p : List Nat} : Upto W p [] (if p ∈ W then [p] else []) := by
  by_cases h : p ∈ W
  · rw [if_pos h]
    refine ⟨by simp, fun w => ?_⟩
    rw [List.mem_singleton]
    exact ⟨fun e => ⟨e ▸ h, .inl e⟩, fun ⟨_, e⟩ => e.resolve_right fun ⟨_, z, _⟩ => nomatch z⟩
  · rw [if_neg h]
    exact ⟨.nil, fun w => ⟨fun z => (List.not_mem_nil z).elim, fun ⟨a, b⟩ => absurd ((b.resolve_right fun ⟨_, z, _⟩ => nomatch z) ▸ a) h⟩⟩
theorem Upto.next {W : List (List Nat)} {p : List Nat} {cs : List Nat} {c : Nat} {ys zs : List (List Nat)} (u : Upto W p cs ys) (b : Begun W (p ++ [c]) zs) (h : ∀ d ∈ cs, d < c) : Upto W p (cs ++ [c]) (ys ++ zs) := by
  refine ⟨List.pairwise_append.mpr ⟨u.up, b.up, fun y hy z hz => ?_⟩, fun w => ?_⟩
  · obtain ⟨_, hz⟩ := (b.mem z).mp hz
    obtain ⟨s, rfl⟩ := hz
    obtain ⟨_, hy⟩ := (u.mem y).mp hy
    rw [List.append_assoc]
    rcases hy with rfl | ⟨d, hd, r, rfl⟩
    · exact lt_ext _ _ _
    · rw [List.append_assoc]; exact lt_side p (h d hd) r s
  · rw [List.mem_append, u.mem w, b.mem w]
    constructor
    · rintro (⟨h1, h2⟩ | ⟨h1, h2⟩)
      · exact ⟨h1, h2.imp id fun ⟨d, hd, z⟩ => ⟨d, List.mem_append_left _ hd, z⟩⟩
      · exact ⟨h1, .inr ⟨c, List.mem_append_right _ (List.mem_singleton.mpr rfl), h2⟩⟩
    · rintro ⟨h1, h2 | ⟨d, hd, z⟩⟩
      · exact .inl ⟨h1, .inl h2⟩
      · rcases List.mem_append.mp hd with hd | hd
        · exact .inl ⟨h1, .inr ⟨d, hd, z⟩⟩
        · rw [List.mem_singleton.mp hd] at z; exact .inr ⟨h1, z⟩
theorem Upto.done {CN : Addr} {H : Hp} {L : Lay} {N : List Nat → Prop} {W : List (List Nat)} {p : List Nat} {cs : List Nat} {ys : List (List Nat)} (u : Upto W p cs ys) (t : Trie CN H L N W) (hW : ∀ w ∈ W, N w) (hc : ∀ c, c ∈ cs ↔ N (p ++ [c])) : Begun W p ys := by
  refine ⟨u.up, fun w => (u.mem w).trans ⟨fun ⟨h1, h2⟩ => ⟨h1, ?_⟩, fun ⟨h1, r, h2⟩ => ⟨h1, ?_⟩⟩⟩
  · rcases h2 with rfl | ⟨c, _, z⟩
    · exact List.prefix_refl _
    · exact (List.prefix_append p [c]).trans z
  · subst h2
    cases r with
    | nil => exact .inl (List.append_nil p)
    | cons c r =>
      have e : p ++ c :: r = (p ++ [c]) ++ r := by simp
      exact .inr ⟨c, (hc c).mpr (t.pre r (p ++ [c]) (e ▸ hW _ h1)), by rw [e]; exact List.prefix_append _ _⟩
theorem up_nodup {ys : List (List Nat)} (h : ys.Pairwise (· < ·)) : ys.Nodup := List.Pairwise.imp (fun {a b} (h : a < b) (z : a = b) => List.lt_irrefl b (by rw [z] at h; exact h)) h
theorem Upto.few {W : List (List Nat)} {p : List Nat} {cs : List Nat} {ys : List (List Nat)} (u : Upto W p cs ys) : ys.length ≤ W.length := (up_nodup u.up).length_le_of_subset fun w hw => ((u.mem w).mp hw).1
theorem Begun.few {W : List (List Nat)} {p : List Nat} {ys : List (List Nat)} (u : Begun W p ys) : ys.length ≤ W.length := (up_nodup u.up).length_le_of_subset fun w hw => ((u.mem w).mp hw).1
theorem up_eq {ys zs : List (List Nat)} (h : ys.Pairwise (· < ·)) (k : zs.Pairwise (· < ·)) (m : ∀ w, w ∈ ys ↔ w ∈ zs) : ys = zs :=
  List.Perm.eq_of_pairwise (fun a b _ _ h1 h2 => absurd h2 (List.lt_asymm h1)) h k ((List.perm_ext_iff_of_nodup (up_nodup h) (up_nodup k)).mpr m)
/-- a tree is no node -/
theorem t_ne {H : Hp} {t CT dt CN : Addr} {L L' : Lay} {n : Nat} {p : List Nat} {k : Bool} (e : H t = some (treeO CT dt L n)) (o : H (L'.ad p) = some (nodeO CN L' p k)) : t ≠ L'.ad p := fun z => by
  rw [← z, e] at o
  injection o with o
  injection o with _ _ o
  injection o with o _
  injection o with o _
  exact absurd o (by decide)
theorem t_nb {H : Hp} {t CT dt a : Addr} {L : Lay} {n : Nat} {kvs : List (Key × V)} (e : H t = some (treeO CT dt L n)) (o : H a = some (.dK kvs)) : t ≠ a := fun z => by
  rw [← z, e] at o; cases o
/-- what stood still stands -/
def Grow (H H' : Hp) : Prop := ∀ x, H' x = none → H x = none
theorem Grow.same {H H' : Hp} (s : Same H H') : Grow H H' := fun x h => s.free h
theorem Grow.trans {H H1 H2 : Hp} (a : Grow H H1) (b : Grow H1 H2) : Grow H H2 := fun x h => a x (b x h)
theorem Grow.upd {H H' : Hp} {a : Addr} {o : HO} (g : Grow H H') : Grow H (upd H' a o) := fun x h => by
  by_cases e : x = a
  · rw [e, upd_same] at h; cases h
  · rw [upd_ne e] at h; exact g x h
/-- a promise that nobody can ask for -/
theorem Dd.never {P : Program} {w : World} {K : PySem.W.Frag} {mg : Str → Option Value} {base : Heap} {CX : CXT} {x : Str} {st : Stmt} {ps : List Str} {k : Nat} {sp : Sp} (A : At K mg x st) (hb : BindN x st ps) (h : ∀ vs H Q E, ¬ sp vs H Q E) : Dd P w K mg base CX k x ps sp := by
  obtain ⟨f, fd, hm, F⟩ := A.ex
  exact ⟨f, fd, hm, F.kp, F.bindsN hb, ⟨fun vs H Q E z => absurd z (h _ _ _ _), fun A outer s H args us vs Q E hr e0 ha hv hs => absurd hs (h _ _ _ _)⟩, fn_there F⟩
end N0

/-! B22: the nodes looked at. -/
namespace N0
open PySem PySem.Spec PyProof.Rows L2
section
variable {K : PySem.W.Frag} {σ : L2.St} {H : Hp} {Q : VK} {a : Addr} {p b : List Nat} {te : TE} {tb : TS} {nx bk ct : L2.St → Hp → Prop} {rt : VK}
theorem g_triple {T : Addr} {x y z : V} {i j k : Nat} {R : L2.St → Hp → Prop} (h : SqT K H T [x, y, z]) (q : R (((σ.set i (some x)).set j (some y)).set k (some z)) H) :
    gTup K 3 (gCons (gName i) (gCons (gName j) (gCons (gName k) gNil))) (.ref T) σ H R := ⟨T, [x, y, z], rfl, h, rfl, x, [y, z], rfl, y, [z], rfl, z, [], rfl, rfl, q⟩
theorem g_minRow (h : SqL K H a (rowV (Lv.row p b))) (q : ∀ n : Nat, (∀ m : Nat, n ≤ m ↔ Lv.Nearb m p b) → Q (.int (n : Nat)) H) : rMin K [.ref a] H Q := by
  have e : rowV (Lv.row p b) = ((Lv.row p b).map fun n => ((n : Nat) : Int)).map V.int := by rw [List.map_map]; rfl
  refine ⟨a, (Lv.row p b).map fun n => ((n : Nat) : Int), rfl, e ▸ h, by rw [List.length_map, Lv.row_len]; omega, fun m hm hle => ?_⟩
  obtain ⟨n, hn, rfl⟩ := List.mem_map.mp hm
  refine q n fun mm => ⟨fun hle2 => ?_, fun ⟨j, hj, hl⟩ => ?_⟩
  · obtain ⟨j, hj, ej⟩ := List.getElem_of_mem hn
    rw [Lv.row_len] at hj
    have := Lv.row_get (p := p) (b := b) (j := j) (by omega)
    rw [List.getElem?_eq_getElem (by rw [Lv.row_len]; exact hj), ej] at this
    injection this with this
    exact ⟨j, by omega, by omega⟩
  · have := Lv.row_get (p := p) (b := b) hj
    have h1 := hle _ (List.mem_map.mpr ⟨_, List.mem_of_getElem? this, rfl⟩)
    omega
end
def spMost (C : Addr) : Sp := fun vs H Q E => ∃ (x : V) (U : String), vs = [x] ∧ Kn H x U ∧ (okP 25 x = true → Q .non H) ∧ (okP 25 x = false → E (.ref C) none H)
/-! ### the search -/
/-- the first so many nodes -/
def nodesOf (W : List (List Nat)) : List (List Nat) := [] :: W.flatMap fun w => (List.range (w.length + 1)).map w.take
theorem nodesOf_mem {W : List (List Nat)} {p : List Nat} (h : Nd W p) : p ∈ nodesOf W := by
  rcases h with h | ⟨w, hw, h⟩
  · rw [h]; exact List.mem_cons_self ..
  · refine List.mem_cons_of_mem _ (List.mem_flatMap.mpr ⟨w, hw, List.mem_map.mpr ⟨p.length, List.mem_range.mpr ?_, (List.prefix_iff_eq_take.mp h).symm⟩⟩)
    have := h.length_le
    omega
theorem nodesOf_len : ∀ W : List (List Nat), (∀ w ∈ W, w.length ≤ 24) → (nodesOf W).length ≤ 1 + 25 * W.length
  | [], _ => by simp [nodesOf]
  | w :: r, h => by
    have ih := nodesOf_len r fun v hv => h v (List.mem_cons_of_mem _ hv)
    have hw := h w (List.mem_cons_self ..)
    simp only [nodesOf, List.length_cons, List.flatMap_cons, List.length_append, List.length_map, List.length_range] at ih ⊢
    omega
/-- a search: what is still ahead, what is done, what of that was seen -/
structure Srch (W : List (List Nat)) (m : Nat) (l : List Nat) (st dn qs : List (List Nat)) : Prop where
  nd : (st ++ dn).Nodup
  nn : ∀ q, q ∈ st ++ dn → Nd W q
  par : ∀ q c, q ++ [c] ∈ st ++ dn → q ∈ dn
  cov : ∀ q, Nd W q → Lv.Nearb m q l → q ∈ dn ∨ ∃ p ∈ st, p <+: q
  see : ∀ q, q ∈ qs ↔ q ∈ dn ∧ Lv.Nearb m q l
  qnd : qs.Nodup
section
variable {W : List (List Nat)} {m : Nat} {l p : List Nat} {st dn qs ks : List (List Nat)}
theorem Srch.init : Srch W m l [[]] [] [] :=
  ⟨by simp, fun q hq => by simp at hq; exact .inl hq, fun q c h => by simp at h, fun q _ _ => .inr ⟨[], by simp, List.nil_prefix⟩, fun q => by simp, List.nodup_nil⟩
theorem Srch.few (s : Srch W m l st dn qs) : (st ++ dn).length ≤ (nodesOf W).length := s.nd.length_le_of_subset fun q hq => nodesOf_mem (s.nn q hq)
theorem near_up {q r : List Nat} (h : Lv.Nearb m (q ++ r) l) : Lv.Nearb m q l := by
  induction r generalizing q with
  | nil => rw [List.append_nil] at h; exact h
  | cons c r ih =>
    have e : q ++ c :: r = (q ++ [c]) ++ r := by simp
    rw [e] at h
    exact Lv.Nearb.up (ih h)
theorem Srch.no (s : Srch W m l (st ++ [p]) dn qs) (h : ¬ Lv.Nearb m p l) : Srch W m l st (p :: dn) qs := by
  have e : ∀ q, q ∈ st ++ p :: dn ↔ q ∈ st ++ [p] ++ dn := fun q => by simp
  refine ⟨?_, fun q hq => s.nn q ((e q).mp hq), fun q c hq => List.mem_cons_of_mem _ (s.par q c ((e _).mp hq)), fun q hq hn => ?_, fun q => ?_, s.qnd⟩
  · have := s.nd; rw [List.append_assoc] at this; exact this
  · rcases s.cov q hq hn with h1 | ⟨x, hx, r, rfl⟩
    · exact .inl (List.mem_cons_of_mem _ h1)
    · rcases List.mem_append.mp hx with hx | hx
      · exact .inr ⟨x, hx, List.prefix_append _ _⟩
      · rw [List.mem_singleton.mp hx] at hn
        exact absurd (near_up hn) h
  · rw [s.see q, List.mem_cons]
    exact ⟨fun ⟨a, b⟩ => ⟨.inr a, b⟩, fun ⟨a, b⟩ => ⟨a.resolve_left fun z => h (z ▸ b), b⟩⟩
theorem Srch.yes {kd : List Nat} (s : Srch W m l (st ++ [p]) dn qs) (h : Lv.Nearb m p l) (hk : ∀ c, c ∈ kd ↔ Nd W (p ++ [c])) (hd : kd.Nodup) : Srch W m l (st ++ kd.map fun c => p ++ [c]) (p :: dn) (qs ++ [p]) := by
  have hp : p ∈ st ++ [p] ++ dn := by simp
  have nd1 := s.nd
  rw [List.append_assoc] at nd1
  have nd2 : (st ++ p :: dn).Nodup := nd1
  have hpd : p ∉ dn := fun z => by
    obtain ⟨_, h2, _⟩ := List.nodup_append.mp nd2
    exact (List.nodup_cons.mp h2).1 z
  have new : ∀ c, p ++ [c] ∉ st ++ [p] ++ dn := fun c z => hpd (s.par p c z)
  refine ⟨?_, fun q hq => ?_, fun q c hq => ?_, fun q hq hn => ?_, fun q => ?_, ?_⟩
  · obtain ⟨a1, a2, a3⟩ := List.nodup_append.mp nd2
    rw [List.append_assoc, List.nodup_append]
    refine ⟨a1, List.nodup_append.mpr ⟨List.Pairwise.map _ (fun a b h z => h (snoc_inj z).2) hd, a2, fun x hx y hy z => ?_⟩, fun x hx y hy z => ?_⟩
    · obtain ⟨c, _, rfl⟩ := List.mem_map.mp hx
      subst z
      exact new c (by
        rcases List.mem_cons.mp hy with e | e
        · exact absurd e.symm snoc_ne
        · exact List.mem_append_right _ e)
    · rcases List.mem_append.mp hy with hy | hy
      · obtain ⟨c, _, rfl⟩ := List.mem_map.mp hy
        subst z
        exact new c (List.mem_append_left _ (List.mem_append_left _ hx))
      · exact a3 x hx y hy z
  · rcases List.mem_append.mp hq with hq | hq
    · rcases List.mem_append.mp hq with hq | hq
      · exact s.nn q (by simp [hq])
      · obtain ⟨c, hc, rfl⟩ := List.mem_map.mp hq
        exact (hk c).mp hc
    · exact s.nn q (by rcases List.mem_cons.mp hq with e | e; exact e ▸ hp; simp [e])
  · rcases List.mem_append.mp hq with hq | hq
    · rcases List.mem_append.mp hq with hq | hq
      · exact List.mem_cons_of_mem _ (s.par q c (by simp [hq]))
      · obtain ⟨d, hd, e⟩ := List.mem_map.mp hq
        rw [(snoc_inj e).1]; exact List.mem_cons_self ..
    · rcases List.mem_cons.mp hq with e | e
      · exact List.mem_cons_of_mem _ (s.par q c (by rw [e]; exact hp))
      · exact List.mem_cons_of_mem _ (s.par q c (by simp [e]))
  · rcases s.cov q hq hn with h1 | ⟨x, hx, r, rfl⟩
    · exact .inl (List.mem_cons_of_mem _ h1)
    · rcases List.mem_append.mp hx with hx | hx
      · exact .inr ⟨x, List.mem_append_left _ hx, List.prefix_append _ _⟩
      · rw [List.mem_singleton.mp hx] at hq ⊢
        cases r with
        | nil => rw [List.append_nil]; exact .inl (List.mem_cons_self ..)
        | cons c r =>
          have e : p ++ c :: r = (p ++ [c]) ++ r := by simp
          have hN : Nd W (p ++ [c]) := by
            rw [e] at hq
            rcases hq with hq | ⟨w, hw, hq⟩
            · simp at hq
            · exact .inr ⟨w, hw, (List.prefix_append _ _).trans hq⟩
          exact .inr ⟨p ++ [c], List.mem_append_right _ (List.mem_map.mpr ⟨c, (hk c).mpr hN, rfl⟩), by rw [e]; exact List.prefix_append _ _⟩
  · rw [List.mem_append, List.mem_singleton, s.see q, List.mem_cons]
    exact ⟨fun z => z.elim (fun ⟨a, b⟩ => ⟨.inr a, b⟩) fun e => ⟨.inl e, e ▸ h⟩, fun ⟨a, b⟩ => a.elim .inr fun z => .inl ⟨z, b⟩⟩
  · rw [List.nodup_append]
    exact ⟨s.qnd, by simp, fun a ha b hb z => hpd (by rw [← List.mem_singleton.mp hb, ← z]; exact ((s.see a).mp ha).1)⟩
theorem Srch.fin (s : Srch W m l [] dn qs) : ∀ q, q ∈ qs ↔ Nd W q ∧ Lv.Nearb m q l := fun q =>
  ⟨fun h => ⟨s.nn q ((s.see q).mp h).1, ((s.see q).mp h).2⟩, fun ⟨h1, h2⟩ => (s.see q).mpr ⟨(s.cov q h1 h2).resolve_right (fun ⟨_, z, _⟩ => (List.not_mem_nil z).elim), h2⟩⟩
theorem Srch.sees (s : Srch W m l st dn qs) : qs.length ≤ (nodesOf W).length := by
  have h1 : qs.length ≤ dn.length := s.qnd.length_le_of_subset fun q hq => ((s.see q).mp hq).1
  have := s.few
  rw [List.length_append] at this
  omega
end
/-- what is told of a node that was looked at -/
def SeenV (W : List (List Nat)) (l : List Nat) (H : Hp) (x : V) (q : List Nat) : Prop := ∃ a, x = .ref a ∧ H a = some (.tup [.str (mkS q), .bl (decide (q ∈ W)), .int ((Lv.lev q l : Nat))])
/-- an item ahead -/
def AheadV (L : Lay) (l : List Nat) (S A : Addr) (H : Hp) (x : V) (q : List Nat) : Prop := ∃ a r, x = .ref a ∧ H a = some (.tup [.str (mkS q), .ref (L.ad q), .ref r]) ∧ H r = some (.lst (rowV (Lv.row q l))) ∧ r ≠ S ∧ r ≠ A
/-- two lists, item by item -/
structure Each (R : V → List Nat → Prop) (xs : List V) (qs : List (List Nat)) : Prop where
  len : xs.length = qs.length
  at_ : ∀ (i : Nat) x q, xs[i]? = some x → qs[i]? = some q → R x q
section
variable {R R' : V → List Nat → Prop} {xs ys : List V} {qs rs : List (List Nat)}
theorem Each.nil : Each R [] [] := ⟨rfl, fun i x q h => by simp at h⟩
theorem Each.mono (e : Each R xs qs) (h : ∀ x q, R x q → R' x q) : Each R' xs qs := ⟨e.len, fun i x q a b => h x q (e.at_ i x q a b)⟩
theorem Each.app (e : Each R xs qs) (f : Each R ys rs) : Each R (xs ++ ys) (qs ++ rs) := by
  refine ⟨by rw [List.length_append, List.length_append, e.len, f.len], fun i x q a b => ?_⟩
  by_cases h : i < xs.length
  · rw [List.getElem?_append_left h] at a
    rw [List.getElem?_append_left (by rw [← e.len]; exact h)] at b
    exact e.at_ i x q a b
  · rw [List.getElem?_append_right (by omega)] at a
    rw [List.getElem?_append_right (by rw [← e.len]; omega), ← e.len] at b
    exact f.at_ _ x q a b
theorem Each.one {x : V} {q : List Nat} (h : R x q) : Each R [x] [q] := ⟨rfl, fun i y r a b => by
  match i, a, b with
  | 0, a, b => injection a with a; injection b with b; subst a b; exact h⟩
theorem Each.last (e : Each R xs (qs ++ [q])) : ∃ x ys, xs = ys ++ [x] ∧ Each R ys qs ∧ R x q := by
  have hl := e.len
  rw [List.length_append, List.length_singleton] at hl
  have hx : xs[qs.length]? = some (xs[qs.length]'(by omega)) := List.getElem?_eq_getElem _
  have ex : xs = xs.take qs.length ++ [xs[qs.length]'(by omega)] := by
    conv => lhs; rw [← List.take_of_length_le (show xs.length ≤ qs.length + 1 by omega), List.take_succ, hx]
    rfl
  refine ⟨_, _, ex, ⟨by rw [List.length_take]; omega, fun i y r a b => ?_⟩, e.at_ qs.length _ q hx (by simp)⟩
  have hi : i < qs.length := (List.getElem?_eq_some_iff.mp b).1
  rw [List.getElem?_take_of_lt hi] at a
  exact e.at_ i y r a (by rw [List.getElem?_append_left hi]; exact b)
end
def But (A : Addr) (H H' : Hp) : Prop := ∀ x u, H x = some u → x ≠ A → H' x = some u
section
variable {W : List (List Nat)} {l q : List Nat} {L : Lay} {S A B : Addr} {H H' : Hp} {x : V}
theorem Same.but (s : Same H H') : But A H H' := fun x u e _ => s x u e
theorem But.trans {H1 : Hp} (a : But A H H') (b : But A H' H1) : But A H H1 := fun x u e n => b x u (a x u e n) n
theorem But.wr (b : But A H H') {o : HO} : But A H (upd H' A o) := fun x u e n => by rw [upd_ne n]; exact b x u e n
theorem But.from (b : But A H' H) {H0 : Hp} (s : Same H0 H') (h : H0 A = none) : Same H0 H := fun x u e => b x u (s x u e) (ne_of_none e h)
/-- tuples and lists but the two lists stay -/
def TL : HO → Prop
  | .tup _ => True
  | .lst _ => True
  | _ => False
def Pl2 (S A : Addr) (H H' : Hp) : Prop := ∀ x u, H x = some u → TL u → x ≠ S → x ≠ A → H' x = some u
theorem Pl2.trans {H1 : Hp} (a : Pl2 S A H H') (b : Pl2 S A H' H1) : Pl2 S A H H1 := fun x u e pl n1 n2 => b x u (a x u e pl n1 n2) pl n1 n2
theorem Same.pl2 (s : Same H H') : Pl2 S A H H' := fun x u e _ _ _ => s x u e
theorem But.plS (b : But S H H') : Pl2 S A H H' := fun x u e _ n _ => b x u e n
theorem But.plA (b : But A H H') : Pl2 S A H H' := fun x u e _ _ n => b x u e n
theorem SeenV.pl (v : SeenV W l H x q) (b : Pl2 S A H H') {o o' : List V} (hS : H S = some (.lst o)) (hA : H A = some (.lst o')) : SeenV W l H' x q := by
  obtain ⟨a, rfl, e⟩ := v
  exact ⟨a, rfl, b _ _ e trivial (fun z => by rw [z, hS] at e; cases e) fun z => by rw [z, hA] at e; cases e⟩
theorem AheadV.pl (v : AheadV L l S A H x q) (b : Pl2 S A H H') {o o' : List V} (hS : H S = some (.lst o)) (hA : H A = some (.lst o')) : AheadV L l S A H' x q := by
  obtain ⟨a, r, rfl, e, f, n1, n2⟩ := v
  exact ⟨a, r, rfl, b _ _ e trivial (fun z => by rw [z, hS] at e; cases e) (fun z => by rw [z, hA] at e; cases e), b _ _ f trivial n1 n2, n1, n2⟩
theorem But.new {o : HO} (b : But S H H') (h : H A = none) : But S H (upd H' A o) := fun x u e n => by rw [upd_ne (ne_of_none e h)]; exact b x u e n
theorem But.same {H1 : Hp} (b : But S H H') (s : Same H' H1) : But S H H1 := fun x u e n => s x u (b x u e n)
theorem Trie.but {CN : Addr} {N : List Nat → Prop} (t : Trie CN H L N W) (b : But S H H') {o : List V} (hS : H S = some (.lst o)) : Trie CN H' L N W := t.frame fun x u e ⟨p, hp, z⟩ => b x u e fun y => by
  subst y
  rcases z with z | z
  · have := t.obj p hp; rw [← z, hS] at this; cases this
  · have := t.dic p hp; rw [← z, hS] at this; cases this
def qItems (R : It → Hp → Prop) : VK := fun x H1 => ∃ d o kvs, x = .ref d ∧ H1 d = some (.frz o (.dK kvs)) ∧ R (Iti d o kvs) H1
theorem g_iItems {σ : L2.St} {td : TE} {R : It → Hp → Prop} (h : td σ H (qItems R)) : iItems td σ H R := h
theorem kidV_get {p : List Nat} {ks : List Nat} {i : Nat} {x y : V} (hx : ((kidV L p ks)[i]?.map fun kv => kV kv.1) = some x) (hy : ((kidV L p ks)[i]?.map Prod.snd) = some y) : ∃ c, ks[i]? = some c ∧ x = .str (mkS [c]) ∧ y = .ref (L.ad (p ++ [c])) := by
  unfold kidV at hx hy
  rw [List.getElem?_map] at hx hy
  cases e : ks[i]? with
  | none => rw [e] at hx; cases hx
  | some c =>
    rw [e] at hx hy
    exact ⟨c, rfl, (Option.some.inj hx).symm, (Option.some.inj hy).symm⟩
end
/-- looked at: the nodes whose texts some beginning of the word is near to -/
def spLooked (CN CT C CM T : Addr) : Sp := fun vs H Q E => ∃ (t : Addr) (x y : V) (U V : String) (W : List (List Nat)) (F : Addr → Prop), vs = [.ref t, x, y] ∧ Kn H x U ∧ Sh x ∧ Kn H y V ∧ Tb H T ∧ TreeV CN CT H t W F ∧ W.length ≤ 400 ∧
  (∀ l m, x = .str (mkS l) → y = .int (m : Nat) → Wd l → l.length ≤ 24 → m ≤ 24 → ∀ qs xs D H', qs.Nodup → (∀ q, q ∈ qs ↔ Nd W q ∧ Lv.Nearb m q l) → Same H H' → H D = none → H' D = some (.lst xs) → Each (SeenV W l H') xs qs → qs.length ≤ 10001 → Q (.ref D) H') ∧
  (wordB x = false → ∀ H', Same H H' → E (.ref C) none H') ∧ (wordB x = true → okP 25 y = false → ∀ H', Same H H' → E (.ref CM) none H')
def spLook (CN CT C CM T : Addr) : Sp := fun vs H Q E => ∃ (t : Addr) (x y : V) (U V : String) (W : List (List Nat)) (F : Addr → Prop), vs = [.ref t, x, y] ∧ Kn H x U ∧ Sh x ∧ Kn H y V ∧ Tb H T ∧ TreeV CN CT H t W F ∧ W.length ≤ 400 ∧
  (∀ l m, x = .str (mkS l) → y = .int (m : Nat) → Wd l → l.length ≤ 24 → m ≤ 24 → ∀ (qs : List (List Nat)) H', qs.Nodup → (∀ q, q ∈ qs ↔ Nd W q ∧ Lv.Nearb m q l) → Same H H' → Q (.int (qs.length : Nat)) H') ∧
  (wordB x = false → ∀ H', Same H H' → E (.ref C) none H') ∧ (wordB x = true → okP 25 y = false → ∀ H', Same H H' → E (.ref CM) none H')
/-- the same of words and numbers that fit -/
def spLook0 (CN CT T : Addr) : Sp := fun vs H Q _ => ∃ (t : Addr) (l : List Nat) (m : Nat) (W : List (List Nat)) (F : Addr → Prop), vs = [.ref t, .str (mkS l), .int (m : Nat)] ∧ Wd l ∧ l.length ≤ 24 ∧ m ≤ 24 ∧ Tb H T ∧ TreeV CN CT H t W F ∧ W.length ≤ 400 ∧
  ∀ (qs : List (List Nat)) H', qs.Nodup → (∀ q, q ∈ qs ↔ Nd W q ∧ Lv.Nearb m q l) → Same H H' → Q (.int (qs.length : Nat)) H'
theorem okP_nat {m : Nat} {n : Int} (h : (m : Int) < n) : okP n (.int (m : Nat)) = true := by
  show (decide ((0 : Int) ≤ (m : Nat)) && decide (((m : Nat) : Int) < n)) = true
  rw [decide_eq_true (by omega), decide_eq_true h]; rfl
theorem look_quiet {CN CT C CM T : Addr} {vs : List V} {H : Hp} {Q : VK} {E : XK} (h : spLook0 CN CT T vs H Q E) : spLook CN CT C CM T vs H Q E0 := by
  obtain ⟨t, l, m, W, F, rfl, hw, hl, hm, hT, tv, h4, q⟩ := h
  refine ⟨t, _, _, _, _, W, F, rfl, kn_str, sh_str (by omega), .int _, hT, tv, h4, fun l' m' e1 e2 _ _ _ => ?_, fun h => ?_, fun _ h => ?_⟩
  · injection e1 with e1
    injection e2 with e2
    have e3 : m = m' := by omega
    rw [← mkS_inj.mp e1, ← e3]; exact q
  · rw [wordB_wd hl hw] at h; cases h
  · rw [okP_nat (by omega)] at h; cases h
theorem okP_inv {n : Int} {y : V} (h : okP n y = true) : ∃ m : Nat, y = .int (m : Nat) ∧ (m : Int) < n := by
  cases y with
  | int i =>
    obtain ⟨h1, h2⟩ := Bool.and_eq_true_iff.mp h
    have h1 := of_decide_eq_true h1
    have h2 := of_decide_eq_true h2
    exact ⟨i.toNat, by rw [Int.toNat_of_nonneg h1], by omega⟩
  | _ => cases h
end N0

/-! B23: enumerate of a tuple. -/
namespace N0
open PySem PySem.Spec PyProof.Rows L2
open AutoSeq1 (wpAny_loadPart')
theorem meets_enumerate_newTp (l : Addr) (items : Array Value) (n : Nat) (dct : Option Addr) (sl : Array (Option Value)) :
    Meets (Builtin.«enumerate.__new__» ⟨[.type "enumerate", .ref l], []⟩) (fun _ R s => s.heap.get? l = some { cls := .type "tuple", dict := dct, data := .seq items n, slots := sl } ∧
      R (.ok (.ret (.ref (s.heap.push { cls := .type "tuple_iterator", data := .fields #[.ref l, .int 0 0] }).objs.size)))
        { s with heap := (s.heap.push { cls := .type "tuple_iterator", data := .fields #[.ref l, .int 0 0] }).push { cls := .type "enumerate", data := .fields #[.none, .bool false, .ref s.heap.objs.size, rawInt 0, .none, .none] } }) :=
  .of_wp fun prog w A R s h => by
    obtain ⟨hp, g, d, tk, os⟩ := s; obtain ⟨hl, h⟩ := h
    have hsub := sub_enumerate
    have hL : Heap.IsTuple (Shared.heap ⟨hp, g, d, tk, os⟩) l items := ⟨_, hl, rfl, n, rfl⟩
    wp_walk using wpAny_loadPart' hl
    refine wpAny_stack_any fun st => wpAny_pure ?_
    split
    · rename_i c _ _ _ _ _
      cases (c == Value.type "enumerate")
      · wp_walk using wpAny_loadPart' hl, wpAny_pyIter_tuple hL
        exact ⟨_, rfl, h⟩
      · wp_walk using wpAny_loadPart' hl, wpAny_pyIter_tuple hL
        exact ⟨_, rfl, h⟩
    · wp_walk using wpAny_loadPart' hl, wpAny_pyIter_tuple hL
      exact ⟨_, rfl, h⟩
theorem call_enumerate_tup {prog : Program} {w : World} {A : Around} {E : Value → Shared → Prop} {s : Shared} {l : Addr} {items : Array Value} {Q : Value → Shared → Prop} (hL : s.heap.IsTuple l items)
    (h : ∀ h', IsEnum h' (s.heap.objs.size + 1) s.heap.objs.size 0 .none → h'.IsTupleIter s.heap.objs.size l 0 → h'.objs.size = s.heap.objs.size + 2 →
      (∀ b o, s.heap.get? b = some o → h'.get? b = some o) → Q (.ref (s.heap.objs.size + 1)) { s with heap := h' }) :
    wpAny (model prog w) A (call (.type "enumerate") [.ref l]) Q E s := by
  obtain ⟨⟨c, dct, dt, sl⟩, hl, hc, n, hd⟩ := hL
  replace hc : c = .type "tuple" := hc
  replace hd : dt = .seq items n := hd
  subst hc hd
  refine callType_new F.called_enumerate (by decide) (F.typeCall_enumerate_1 _) (F.newCall_enumerate_1 _) (fun obj => F.args_object_init_2 obj _) F.entry_enumerate_new
    (meets_enumerate_newTp l items n dct sl) ⟨hl, ?_⟩
  have hz : (s.heap.push { cls := .type "tuple_iterator", data := .fields #[.ref l, .int 0 0] }).objs.size = s.heap.objs.size + 1 := Heap.size_push ..
  show _ ∧ _
  rw [hz]
  have he : IsEnum ((s.heap.push { cls := .type "tuple_iterator", data := .fields #[.ref l, .int 0 0] }).push
      { cls := .type "enumerate", data := .fields #[.none, .bool false, .ref s.heap.objs.size, rawInt 0, .none, .none] }) (s.heap.objs.size + 1) s.heap.objs.size 0 .none := by
    have := Heap.get?_push_size (s.heap.push { cls := .type "tuple_iterator", data := .fields #[.ref l, .int 0 0] })
      (o := { cls := .type "enumerate", data := .fields #[.none, .bool false, .ref s.heap.objs.size, rawInt 0, .none, .none] }) rfl
    rw [hz] at this; exact this
  refine ⟨⟨_, he, rfl⟩, h _ he ⟨_, Heap.get?_push_of_some _ (Heap.get?_push_size _ rfl), rfl, rfl⟩ (by rw [Heap.size_push, hz]) fun b o x => Heap.get?_push_of_some _ (Heap.get?_push_of_some _ x)⟩
/-- enumerate(tuple): each item with its number in a new pair -/
def Itet (K : PySem.W.Frag) (a : Addr) : It :=
  ⟨fun i H => ∃ (xs : List V) (x : V), SqT K H a xs ∧ xs[i]? = some x, fun i H v H' => ∃ T x, v = .ref T ∧ H T = none ∧ H' = upd H T (.tup [.int (i : Nat), x]) ∧ ∀ xs, SqT K H a xs → xs[i]? = some x, fun i H => ∃ xs : List V, SqT K H a xs ∧ xs.length ≤ i⟩
theorem turn_enumTp {P : Program} {w : World} {K : PySem.W.Frag} {elts : List Expr} {kk : Nat} {tpos : Pos} (a e it : Addr) (hne : e ≠ it) (hie : a ≠ it) (hae : a ≠ e) :
    Turn P w K (.Tuple elts kk tpos) (Itet K a) [e, it] e (fun i h => (∃ old, IsEnum h e it ((i : Nat) : Int) old) ∧ h.IsTupleIter it a i) where
  mem := by simp
  obj := fun i h st b hb => by
    obtain ⟨⟨old, he⟩, ⟨o, ho, hc, hd⟩⟩ := st
    have e' : b = e ∨ b = it := by simpa using hb
    rcases e' with z | z
    · rw [z]; exact ⟨_, he, fun v q => nomatch q⟩
    · rw [z]; exact ⟨o, ho, fun v q => by rw [hd] at q; cases q⟩
  keep := fun i h h' st k => let ⟨⟨old, he⟩, hi⟩ := st; ⟨⟨old, k e (by simp) _ he⟩, hi.at fun o q => k it (by simp) o q⟩
  item := by
    intro X hP hw hK hc i pins s σ H E I hf st hg
    subst hP hw hK
    obtain ⟨⟨old, he⟩, hit⟩ := st
    obtain ⟨xs, x, hq, hx⟩ := hg
    obtain ⟨its, rv, p, hz⟩ := I.tuple hq
    obtain ⟨u, hu, ru⟩ := rv.get hx
    have hel : e < s.heap.objs.size := Heap.lt_size he
    have hil : it < s.heap.objs.size := by obtain ⟨_, q, _⟩ := hit; exact Heap.lt_size q
    have DD : Draws X.prog X.w X.A.in1 it [it, a] its.toArray.size (fun i v => its.toArray[i]? = some v) (fun i h => h.IsTupleIter it a i ∧ h.IsTuple a its.toArray) := Draws.tuple (A := X.A.in1) (show X.A.in1.handled = none from I.ok.hd hc) it a hie its.toArray
    have hlt : i < its.toArray.size := by rw [List.size_toArray]; exact (List.getElem?_eq_some_iff.mp hu).1
    refine wpAny_pyNext_enum_itemD DD he ⟨hit, p⟩ hlt hne (fun z => (by simp at z; exact z.elim hne fun y => hae y.symm)) fun y h' tk hy ho hit' hT hsz hk => ?_
    have ey : y = u := by
      have : its[i]? = some y := by simpa using hy
      rw [hu] at this; exact (Option.some.inj this).symm
    subst ey
    refine ⟨_, rfl, wpAny_letOwnedTupleGo_enum (s := { s with heap := h', toks := tk + 1 }) ho fun h'' he' sb => ?_⟩
    have hT2 : h''.get? s.heap.objs.size = some { cls := .type "tuple", data := .seq #[.int i tk, y] } := (sb.2 _ (Nat.ne_of_gt hel)).trans hT
    have new : ObjOk X.prog X.w (upd H s.heap.objs.size (.tup [.int (i : Nat), x])) h'' s.heap.objs.size (.tup [.int (i : Nat), x]) :=
      ⟨by show 2 ≤ sizeLine; decide, [.int i tk, y], .cons ⟨_, rfl⟩ (.cons ru .nil), ⟨_, hT2, rfl, _, rfl⟩⟩
    have I1 : Inv X pins σ (upd H s.heap.objs.size (.tup [.int (i : Nat), x])) { s with heap := h'', toks := tk + 1 } :=
      I.turnedNew (ch := [e, it]) (fun b ob hb q => (sb.2 b (fun z => hb (by simp [z]))).trans (hk b ob (fun z => hb (by simp [z])) (fun z => hb (by simp [z])) q)) hf (Nat.le_refl _) new
    refine ⟨.ref s.heap.objs.size, _, I1, rfl, ⟨_, x, rfl, I.hok.fresh (Nat.le_refl _), rfl, fun ys hy => by rw [I.tuple_inj hy hq]; exact hx⟩, ⟨⟨y, ?_⟩, ?_⟩, fun b hb => ?_⟩
    · have e1 : ((i + 1 : Nat) : Int) = (i : Int) + 1 := by omega
      rw [e1]; exact he'
    · obtain ⟨o, ho1, r⟩ := hit'.1
      exact ⟨o, (sb.2 it (Ne.symm hne)).trans ho1, r⟩
    · have hb' : b < s.heap.objs.size := by
        have e' : b = e ∨ b = it := by simpa using hb
        rcases e' with z | z
        · rw [z]; exact hel
        · rw [z]; exact hil
      rw [upd_ne (Nat.ne_of_lt hb')]
      exact (hf b hb).1
  done := by
    intro X hP hw hK hc i pins s σ H E I hf st hg
    subst hP hw hK
    obtain ⟨⟨old, he⟩, hit⟩ := st
    obtain ⟨xs, hq, hx⟩ := hg
    obtain ⟨its, rv, p, hz⟩ := I.tuple hq
    obtain ⟨f0, f1, f2, f3, f4, f5⟩ := hf it (by simp)
    have hl := rv.length
    have hT : s.TypeIs (.ref e) "enumerate" := ⟨_, he, rfl⟩
    unfold pyNext
    refine wpAny_bind (wpAny_attempt (wpAny_callSpecial?_slot (name := Str.ofString "__next__") hT F.slot_enumerate_next
      (wpAny_call_entry F.slot_enumerate_next hT F.entry_enumerate_next ?_ (F.args_enumerate_next_1 _))))
    show wpAny _ _ (field (.ref e) 2 >>= _) _ _ _
    refine wpAny_bind (wpAny_field he rfl (x := .ref it) rfl ?_)
    refine wpAny_bind (PySem.wpAny_nextOf_tuple_end (A := X.A.in1) (show X.A.in1.handled = none from I.ok.hd hc) hit p (by simp; omega) fun h' y he' hx' => ?_)
    obtain ⟨o, ho, hc'⟩ := hx'
    refine wpAny_bind (wpAny_isInstance (T := "StopIteration") (b := true) ⟨o, ho, hc'⟩ isSubtype_stop ?_)
    exact wpAny_pure ⟨rfl, I.turned (t' := s.toks) (fun b o hb q => he' b o hb q) f0 f1 f3 f4 f5⟩
  self := fun A i s Q E st h => let ⟨⟨_, he⟩, _⟩ := st; wpAny_pyIter_enum he h
def iEnumTp (K : PySem.W.Frag) (ta : TA) : TI := fun σ H R => ta σ H fun vs H1 => ∃ a xs, vs = [.ref a] ∧ SqT K H1 a xs ∧ R (Itet K a) H1
theorem pi_enumTp {X : Cx} {e : Expr} {ta : TA} {p pos tpos : Pos} {elts : List Expr} {kk : Nat} (hg : Gl X "enumerate") (hm : X.mg "enumerate" = none) (ha : PA X [e] ta) (hs : starEach [e] X.env = [(false, eval e X.env)] := by rfl) :
    PI X (.Tuple elts kk tpos) (.Call (.Name "enumerate" p) [e] [] pos) (iEnumTp X.K ta) := by
  refine ⟨fun pins s σ H R I h => ?_⟩
  refine Call_ (ld_blt I hg hm boot_enumerate (PyProof.Rows.callWith_type1 (thn (ha.run pos pins s σ H _ I h) fun us s1 ⟨vs, H1, I1, r1, q1⟩ => ?_) hs rfl))
  obtain ⟨a, xs, ex, hq, q⟩ := q1
  subst ex
  cases r1 with
  | cons r rr =>
    cases rr
    cases r
    obtain ⟨its, rv, p', hz⟩ := I1.tuple hq
    have hlt : a < s1.heap.objs.size := by obtain ⟨_, q, _⟩ := p'; exact Heap.lt_size q
    refine call_enumerate_tup p' fun h' he hit hsz hk => wpAny_pyIter_enum he ?_
    have I2 : Inv X pins σ H1 { s1 with heap := h' } := I1.kept (t' := s1.toks) hk
    refine ⟨s1.heap.objs.size + 1, [s1.heap.objs.size + 1, s1.heap.objs.size], _, _, H1, rfl, I2, turn_enumTp a (s1.heap.objs.size + 1) s1.heap.objs.size (Nat.succ_ne_self _) (Nat.ne_of_lt hlt) (Nat.ne_of_lt (Nat.lt_succ_of_lt hlt)), ⟨⟨.none, he⟩, hit⟩, fun b hb => ?_, q⟩
    have e' : b = s1.heap.objs.size + 1 ∨ b = s1.heap.objs.size := by simpa using hb
    have hle : s1.heap.objs.size ≤ b := by
      rcases e' with z | z
      · rw [z]; exact Nat.le_add_right _ _
      · rw [z]; exact Nat.le_refl _
    exact I1.fpOk hle (I1.hok.fresh hle)
def qEnTp (K : PySem.W.Frag) (R : It → Hp → Prop) : List V → Hp → Prop := fun vs H1 => ∃ a xs, vs = [.ref a] ∧ SqT K H1 a xs ∧ R (Itet K a) H1
theorem g_iETp {σ : L2.St} {H : Hp} {ta : TA} {K : PySem.W.Frag} {R : It → Hp → Prop} (h : ta σ H (qEnTp K R)) : iEnumTp K ta σ H R := h
theorem walk_enumTp {K : PySem.W.Frag} {a : Addr} {xs : List V} : Walk (Itet K a) xs.length (fun H => SqT K H a xs) (YPair (fun i => some (.int (i : Nat))) (fun i => xs[i]?)) := by
  refine ⟨fun i _ hi q => ⟨xs, xs[i], q, by simp [hi]⟩, fun _ q => ⟨xs, q, Nat.le_refl _⟩, fun i H v H' _ q y => ?_⟩
  obtain ⟨T, x, h1, h2, h3, h4⟩ := y
  exact ⟨T, .int (i : Nat), x, h1, h2, h3, rfl, h4 xs q⟩
end N0

/-! B24: words and trees that a law makes. -/
namespace N0
open PySem PySem.Spec PyProof.Rows L2
theorem cutV_mem {xs : List V} {lo hi : Option Int} {x : V} (h : x ∈ cutV xs lo hi) : x ∈ xs := by
  unfold cutV at h
  exact List.mem_of_mem_drop (List.mem_of_mem_take h)
theorem cutV_few {xs : List V} {a b : Nat} (h : a ≤ b) : (cutV xs (some (a : Int)) (some (b : Int))).length ≤ b - a := by
  unfold cutV
  rw [HT.sIx_nat, HT.sIx_nat, List.length_take]
  omega
theorem cutV_ints {ns : List Int} {lo hi : Option Int} : ∃ ms : List Int, cutV (ns.map V.int) lo hi = ms.map V.int := by
  have h : ∀ x ∈ cutV (ns.map V.int) lo hi, ∃ n, x = V.int n := fun x hx => by
    obtain ⟨n, _, e⟩ := List.mem_map.mp (cutV_mem hx)
    exact ⟨n, e.symm⟩
  generalize cutV (ns.map V.int) lo hi = xs at h
  induction xs with
  | nil => exact ⟨[], rfl⟩
  | cons x r ih =>
    obtain ⟨n, rfl⟩ := h x (List.mem_cons_self ..)
    obtain ⟨ms, e⟩ := ih fun y hy => h y (List.mem_cons_of_mem _ hy)
    exact ⟨n :: ms, by rw [e]; rfl⟩
theorem take_snoc_ {α : Type} {l : List α} {i : Nat} {c : α} (h : l[i]? = some c) : l.take (i + 1) = l.take i ++ [c] := by rw [List.take_succ, h]; rfl
/-- words, at most 24 letters each -/
def AllW (ws : List (List Nat)) : Prop := ∀ w ∈ ws, Wd w ∧ w.length ≤ 24
theorem AllW.nil : AllW [] := fun _ h => nomatch h
theorem AllW.snoc {ws : List (List Nat)} {w : List Nat} (h : AllW ws) (h1 : Wd w) (h2 : w.length ≤ 24) : AllW (ws ++ [w]) := fun v hv => by
  rcases List.mem_append.mp hv with hv | hv
  · exact h v hv
  · rw [List.mem_singleton.mp hv]; exact ⟨h1, h2⟩
theorem wordsV_len (ws : List (List Nat)) : (wordsV ws).length = ws.length := by simp [wordsV]
theorem wordsV_get {ws : List (List Nat)} {i : Nat} {x : V} (h : (wordsV ws)[i]? = some x) : ∃ w, ws[i]? = some w ∧ x = .str (mkS w) := by
  unfold wordsV at h
  rw [List.getElem?_map] at h
  cases e : ws[i]? with
  | none => rw [e] at h; cases h
  | some w => rw [e] at h; exact ⟨w, rfl, (Option.some.inj h).symm⟩
theorem wordsV_at {ws : List (List Nat)} {i : Nat} {w : List Nat} (h : ws[i]? = some w) : (wordsV ws)[i]? = some (.str (mkS w)) := by
  unfold wordsV; rw [List.getElem?_map, h]; rfl
theorem wordsV_snoc {ws : List (List Nat)} {w : List Nat} : wordsV (ws ++ [w]) = wordsV ws ++ [.str (mkS w)] := by simp [wordsV]
theorem wordsV_app {ws us : List (List Nat)} : wordsV (ws ++ us) = wordsV ws ++ wordsV us := by simp [wordsV]
/-- the k-th, by a number within -/
theorem words_pick (ws : List (List Nat)) {i : Int} (h0 : 0 ≤ i) (h1 : i < ws.length) : ∃ w ∈ ws, atI (wordsV ws) i = some (.str (mkS w)) := by
  have h : i.toNat < ws.length := by omega
  exact ⟨ws[i.toNat], List.getElem_mem h, at_ofN h0 (wordsV_at (List.getElem?_eq_getElem h))⟩
def spWords1 (K : PySem.W.Frag) : Sp := fun vs H Q _ => ∃ (a : Addr) (ns : List Int), vs = [.ref a] ∧ SqL K H a (ns.map V.int) ∧
  ∀ p ws H', Same H H' → H p = none → H' p = some (.lst (wordsV ws)) → 0 < ws.length → ws.length ≤ 40 → AllW ws → Q (.ref p) H'
def spAsked (K : PySem.W.Frag) : Sp := fun vs H Q _ => ∃ (a p : Addr) (ns : List Int) (ws : List (List Nat)), vs = [.ref a, .ref p] ∧ SqL K H a (ns.map V.int) ∧ H p = some (.lst (wordsV ws)) ∧ 0 < ws.length ∧ ws.length ≤ 1000 ∧ AllW ws ∧
  ∀ l H', Wd l → l.length ≤ 24 → Same H H' → Q (.str (mkS l)) H'
/-- the same words -/
def SameW (W ws : List (List Nat)) : Prop := ∀ w, w ∈ W ↔ w ∈ ws
theorem SameW.nd {W ws : List (List Nat)} (h : SameW W ws) (p : List Nat) : Nd W p ↔ Nd ws p := by
  unfold Nd
  refine or_congr Iff.rfl ⟨fun ⟨w, a, b⟩ => ⟨w, (h w).mp a, b⟩, fun ⟨w, a, b⟩ => ⟨w, (h w).mpr a, b⟩⟩
def spMakeTree (CN CT T : Addr) : Sp := fun vs H Q _ => ∃ (p : Addr) (ws : List (List Nat)), vs = [.ref p] ∧ H p = some (.lst (wordsV ws)) ∧ AllW ws ∧ ws.length ≤ 399 ∧ Tb H T ∧
  ∀ t W F H', Same H H' → TreeV CN CT H' t W F → SameW W ws → W.length ≤ ws.length → (∀ y, F y → H y = none) → Q (.ref t) H'
/-- put and take of words, where there is room -/
def wPut0 (CN CT : Addr) : Addr → List (List Nat) → (Addr → Prop) → List Nat → Hp → VK → Prop := fun t W F l H Q => (l ∈ W → ∀ H', Same H H' → Q (.bl false) H') ∧
  (l ∉ W → W.length < 400 ∧ ∀ H' F', Off F H H' → TreeV CN CT H' t (W ++ [l]) F' → (∀ y, F' y → F y ∨ H y = none) → Q (.bl true) H')
def spTW0 (CN CT T : Addr) (R : Addr → List (List Nat) → (Addr → Prop) → List Nat → Hp → VK → Prop) : Sp := fun vs H Q _ => ∃ (t : Addr) (l : List Nat) (W : List (List Nat)) (F : Addr → Prop), vs = [.ref t, .str (mkS l)] ∧ Wd l ∧ l.length ≤ 24 ∧ Tb H T ∧ TreeV CN CT H t W F ∧ R t W F l H Q
section
variable {CN CT C CF T : Addr} {vs : List V} {H : Hp} {Q : VK} {E : XK}
theorem spTW_quiet {R : Addr → List (List Nat) → (Addr → Prop) → List Nat → Hp → VK → XK → Prop} {R0 : Addr → List (List Nat) → (Addr → Prop) → List Nat → Hp → VK → Prop} (hR : ∀ t W F l H Q, R0 t W F l H Q → R t W F l H Q E0) (h : spTW0 CN CT T R0 vs H Q E) : spTW CN CT C T R vs H Q E0 := by
  obtain ⟨t, l, W, F, rfl, hw, hl, hT, tv, r⟩ := h
  refine ⟨t, _, _, W, F, rfl, kn_str, sh_str (by omega), hT, tv, fun l' e _ _ => ?_, fun h => ?_⟩
  · injection e with e
    rw [← mkS_inj.mp e]; exact hR _ _ _ _ _ _ r
  · rw [wordB_wd hl hw] at h; cases h
theorem put_quiet (h : spTW0 CN CT T (wPut0 CN CT) vs H Q E) : spTW CN CT C T (wPut CN CT CF) vs H Q E0 :=
  spTW_quiet (fun t W F l H Q ⟨h1, h2⟩ => ⟨h1, fun n _ => (h2 n).2, fun n h => by have := (h2 n).1; omega⟩) h
theorem take_quiet (h : spTW0 CN CT T (fun t W F l H Q => wTake CN CT t W F l H Q E0) vs H Q E) : spTW CN CT C T (wTake CN CT) vs H Q E0 := spTW_quiet (fun t W F l H Q h => h) h
theorem has_quiet (h : spTW0 CN CT T (fun t W F l H Q => wHas t W F l H Q E0) vs H Q E) : spTW CN CT C T wHas vs H Q E0 := spTW_quiet (fun t W F l H Q h => h) h
theorem begun_quiet (h : spTW0 CN CT T (fun t W F l H Q => wBegun t W F l H Q E0) vs H Q E) : spTW CN CT C T wBegun vs H Q E0 := spTW_quiet (fun t W F l H Q h => h) h
end
theorem mem_snoc_same {W ws : List (List Nat)} {l : List Nat} (h : SameW W ws) : SameW (W ++ [l]) (ws ++ [l]) := fun w => by
  rw [List.mem_append, List.mem_append, h w]
/-- how many words there are at most -/
theorem same_len {W ws : List (List Nat)} (nd : W.Nodup) (h : SameW W ws) : W.length ≤ ws.length := nd.length_le_of_subset fun w hw => (h w).mp hw
theorem SameW.refl {W : List (List Nat)} : SameW W W := fun _ => Iff.rfl
theorem same_in {W ws : List (List Nat)} {l : List Nat} (h : SameW W ws) (hl : l ∈ W) : SameW W (ws ++ [l]) := fun w => by
  rw [List.mem_append, List.mem_singleton, ← h w]
  exact ⟨.inl, fun z => z.elim id fun e => e ▸ hl⟩
theorem same_less {W ws : List (List Nat)} {l : List Nat} (h : SameW W ws) : SameW (less W l) (less ws l) := fun w => by
  rw [less_mem, less_mem, h w]
theorem same_out {W ws : List (List Nat)} {l : List Nat} (h : SameW W ws) (hl : l ∉ W) : SameW W (less ws l) := fun w => by
  rw [less_mem, ← h w]
  exact ⟨fun z => ⟨z, fun e => hl (e ▸ z)⟩, fun z => z.1⟩
end N0

/-! B25: rows by texts; words without one. -/
namespace N0
open PySem PySem.Spec PyProof.Rows L2
def rowK (qs : List (List Nat)) (rd : List Nat → Addr) : List (Key × V) := qs.map fun q => (Sum.inr (mkS q), V.ref (rd q))
theorem valV_rowK {rd : List Nat → Addr} {q : List Nat} : ∀ qs : List (List Nat), valV (rowK qs rd) (Sum.inr (mkS q) : Key) = if q ∈ qs then some (.ref (rd q)) else none
  | [] => rfl
  | d :: r => by
    have ih := valV_rowK (rd := rd) (q := q) r
    show valV ((Sum.inr (mkS d), V.ref (rd d)) :: rowK r rd) (Sum.inr (mkS q) : Key) = _
    by_cases e : d = q
    · subst e
      rw [valV_pos rfl, if_pos (List.mem_cons_self ..)]
    · rw [valV_neg (fun z => e (by injection z with z; exact mkS_inj.mp z)), ih]
      by_cases h : q ∈ r
      · rw [if_pos h, if_pos (List.mem_cons_of_mem _ h)]
      · rw [if_neg h, if_neg (fun z => (List.mem_cons.mp z).elim (fun w => e w.symm) h)]
/-- rows of these texts -/
structure RowsV (H : Hp) (D : Addr) (l : List Nat) (qs : List (List Nat)) (rd : List Nat → Addr) : Prop where
  top : H D = some (.dK (rowK qs rd))
  nd : qs.Nodup
  row : ∀ q ∈ qs, H (rd q) = some (.lst (rowV (Lv.row q l)))
section
variable {H H' : Hp} {D D2 : Addr} {l q : List Nat} {qs : List (List Nat)} {rd : List Nat → Addr} {Q : VK} {σ : L2.St} {tk tv td : TE} {R : It → Hp → Prop}
theorem RowsV.same (v : RowsV H D l qs rd) (s : Same H H') : RowsV H' D l qs rd := ⟨s _ _ v.top, v.nd, fun q hq => s _ _ (v.row q hq)⟩
theorem RowsV.notin (v : RowsV H D l qs rd) (r : Q (.bl (!decide (q ∈ qs))) H) : qNotin Q (.str (mkS q)) (.ref D) H := by
  refine ⟨D, _, rfl, DGet.k (k := Sum.inr (mkS q)) v.top, ?_⟩
  rw [valV_rowK]
  by_cases h : q ∈ qs
  · rw [if_pos h]; rw [decide_eq_true h] at r; exact r
  · rw [if_neg h]; rw [decide_eq_false h] at r; exact r
theorem RowsV.in_ (v : RowsV H D l qs rd) (r : Q (.bl (decide (q ∈ qs))) H) : qIn Q (.str (mkS q)) (.ref D) H := by
  refine ⟨D, _, rfl, DGet.k (k := Sum.inr (mkS q)) v.top, ?_⟩
  rw [valV_rowK]
  by_cases h : q ∈ qs
  · rw [if_pos h]; rw [decide_eq_true h] at r; exact r
  · rw [if_neg h]; rw [decide_eq_false h] at r; exact r
theorem rowK_at (t : Rd H D (.dK (rowK qs rd))) (h : q ∈ qs) (r : Q (.ref (rd q)) H) : qAt Q (.ref D) (.str (mkS q)) H := by
  have g : DGet H D (.str (mkS q)) (valV (rowK qs rd) (Sum.inr (mkS q) : Key)) := .inl ⟨_, Sum.inr (mkS q), t, rfl, rfl⟩
  rw [valV_rowK, if_pos h] at g
  exact ⟨D, _, rfl, g, r⟩
theorem RowsV.at_ (v : RowsV H D l qs rd) (h : q ∈ qs) (r : Q (.ref (rd q)) H) : qAt Q (.ref D) (.str (mkS q)) H := rowK_at (.inl v.top) h r
/-- one row more -/
theorem RowsV.put {N : Hp → Prop} (v : RowsV H D l qs rd) (h : q ∉ qs) (few : qs.length ≤ 100000) (e : H D2 = some (.lst (rowV (Lv.row q l)))) (r : ∀ rd', RowsV (upd H D (.dK (rowK (qs ++ [q]) rd'))) D l (qs ++ [q]) rd' → N (upd H D (.dK (rowK (qs ++ [q]) rd')))) : qDput N (.ref D2) (.ref D) (.str (mkS q)) H := by
  have hv : valV (rowK qs rd) (Sum.inr (mkS q) : Key) = none := by rw [valV_rowK, if_neg h]
  have ek : putK (rowK qs rd) (Sum.inr (mkS q) : Key) (.ref D2) = rowK (qs ++ [q]) (fun x => if x = q then D2 else rd x) := by
    rw [putK_new _ hv]
    unfold rowK
    rw [List.map_append]
    congr 1
    · refine List.map_congr_left fun x hx => ?_
      show _ = ((Sum.inr (mkS x) : Key), V.ref (if x = q then D2 else rd x))
      rw [if_neg (show ¬ x = q from fun z => h (z ▸ hx))]
    · show _ = [((Sum.inr (mkS q) : Key), V.ref (if q = q then D2 else rd q))]
      rw [if_pos rfl]
  refine ⟨D, _, rfl, DPut.k (k := Sum.inr (mkS q)) v.top (by rw [rowK, List.length_map]; exact Nat.lt_of_le_of_lt few (by decide)), ?_⟩
  rw [ek]
  refine r _ ⟨upd_same, ?_, fun x hx => ?_⟩
  · rw [List.nodup_append]
    exact ⟨v.nd, by simp, fun a ha b hb z => h (by rw [← List.mem_singleton.mp hb, ← z]; exact ha)⟩
  · have ne : ∀ a zs, H a = some (.lst zs) → a ≠ D := fun a zs ea z => by rw [z, v.top] at ea; cases ea
    by_cases hxq : x = q
    · show upd H D _ (if x = q then D2 else rd x) = _
      rw [if_pos hxq, upd_ne (ne _ _ e), hxq]; exact e
    · show upd H D _ (if x = q then D2 else rd x) = _
      have hx' : x ∈ qs := (List.mem_append.mp hx).resolve_right fun z => hxq (List.mem_singleton.mp z)
      rw [if_neg hxq, upd_ne (ne _ _ (v.row x hx'))]; exact v.row x hx'
/-- a dict of one text -/
theorem g_dispC {z : Str} (h : ∀ p, H p = none → tv σ (upd H p (.dK [])) fun v H2 => H2 p = some (.dK []) ∧ ∃ kvs : List (Key × V), [(V.str z, v)] = kvs.map (fun kv => (kV kv.1, kv.2)) ∧ kvs.length ≤ 15 ∧ Q (.ref p) (upd H2 p (.dK (mergeK [] kvs)))) : tDisp [(tC (.str z), tv)] σ H Q := h
def qKeys (R : It → Hp → Prop) : VK := fun x H1 => ∃ d o, x = .ref d ∧ ((∃ kvs, H1 d = some (.frz o (.dK kvs)) ∧ R (Itk d o kvs) H1) ∨ ∃ kvs, H1 d = some (.frz o (.dT kvs)) ∧ R (Itkt d o kvs) H1)
theorem g_iKeys (h : td σ H (qKeys R)) : iKeys td σ H R := h
theorem rowK_get {i : Nat} {k : Key} {v : V} (h : (rowK qs rd)[i]? = some (k, v)) : ∃ q, qs[i]? = some q ∧ k = Sum.inr (mkS q) ∧ v = .ref (rd q) := by
  unfold rowK at h
  rw [List.getElem?_map] at h
  cases e : qs[i]? with
  | none => rw [e] at h; cases h
  | some q => rw [e] at h; injection h with h; injection h with h1 h2; exact ⟨q, rfl, h1.symm, h2.symm⟩
end
theorem less_snoc {ws : List (List Nat)} {w g : List Nat} : less (ws ++ [w]) g = less ws g ++ if w ≠ g then [w] else [] := by
  unfold less
  rw [List.filter_append]
  congr 1
  by_cases h : w = g
  · simp [h]
  · simp [h]
theorem less_few {ws : List (List Nat)} {g : List Nat} : (less ws g).length ≤ ws.length := List.length_filter_le _ _
theorem AllW.less {ws : List (List Nat)} {g : List Nat} (h : AllW ws) : AllW (less ws g) := fun w hw => h w (less_mem.mp hw).1
theorem Off.from {F : Addr → Prop} {H H1 H2 : Hp} (o : Off F H1 H2) (s : Same H H1) (n : ∀ y, F y → H y = none) : Same H H2 := fun x u e => o x u (s x u e) fun z => by rw [n x z] at e; cases e
/-- two lists of the same things, none twice -/
theorem nodup_len {xs ys : List (List Nat)} (h : xs.Nodup) (k : ys.Nodup) (m : ∀ q, q ∈ xs ↔ q ∈ ys) : xs.length = ys.length := ((List.perm_ext_iff_of_nodup h k).mpr m).length_eq
/-! ### methods in the head -/
abbrev dOfM (C m q : Str) (st : Stmt) : He.DefD := ⟨(C, some m), m, q, defArgs st, defBody st, defScope st, [], []⟩
theorem atm_of_says {fa : List He.Fa} {fn : List He.DefD} {K : PySem.W.Frag} {h : Heap} {mg : Str → Option Value} (X : K.In h) (G : h.Ns mainGlobals mg) (c : He.SaysD fa fn K) (i j : Nat) {C m q : Str} {st : Stmt}
    (hi : fn[i]? = some (dOfM C m q st)) (hj : fa[j]? = some (.meth C m)) : AtM K (He.ga K C) m q st := by
  obtain ⟨fd, F⟩ := c.def_ i hi
  exact ⟨_, fd, He.meth_ok (c.fact j hj), F⟩
theorem ati_of_says {fa : List He.Fa} {fn : List He.DefD} {K : PySem.W.Frag} {h : Heap} {mg : Str → Option Value} (X : K.In h) (G : h.Ns mainGlobals mg) (c : He.SaysD fa fn K) (i j l : Nat) {C q : Str} {st : Stmt}
    (hi : fn[i]? = some (dOfM C "__init__" q st)) (hj : fa[j]? = some (.mkr C)) (hl : fa[l]? = some (.glo C)) : AtI K mg C (He.ga K C) q st := by
  obtain ⟨fd, F⟩ := c.def_ i hi
  exact ⟨He.glo_ok X G (c.fact l hl), _, fd, He.mkr_ok (c.fact j hj), F⟩
def spRows : Sp := fun vs H Q _ => ∃ (p : Addr) (ws : List (List Nat)) (l : List Nat), vs = [.ref p, .str (mkS l)] ∧ H p = some (.lst (wordsV ws)) ∧ AllW ws ∧ ws.length ≤ 400 ∧ l.length ≤ 24 ∧
  ∀ D qs rd H', Same H H' → H D = none → RowsV H' D l qs rd → (∀ q, q ∈ qs ↔ Nd ws q) → Q (.ref D) H'
theorem nodesLess {ws : List (List Nat)} {qs : List (List Nat)} (h : qs.Nodup) (hw : AllW ws) (hl : ws.length ≤ 400) (m : ∀ q, q ∈ qs → Nd ws q) : qs.length ≤ 10001 := by
  have h1 := h.length_le_of_subset fun q hq => nodesOf_mem (m q hq)
  have h2 := nodesOf_len ws fun w a => (hw w a).2
  omega
end N0

/-! B26: sorted of pairs of a number and a text. -/
namespace N0
open PySem PySem.Spec PyProof.Rows L2
open SrtO
/-- by the number, then by the text -/
def ltK (p q : Int × List Nat) : Bool := decide (p.1 < q.1 ∨ (p.1 = q.1 ∧ p.2 < q.2))
theorem ltK_iff {p q : Int × List Nat} : ltK p q = true ↔ p.1 < q.1 ∨ (p.1 = q.1 ∧ p.2 < q.2) := decide_eq_true_iff
theorem ltK_no {p q : Int × List Nat} : ltK p q = false ↔ ¬ (p.1 < q.1 ∨ (p.1 = q.1 ∧ p.2 < q.2)) := decide_eq_false_iff_not
theorem lt_tri (a b : List Nat) : a < b ∨ a = b ∨ b < a := by
  by_cases h1 : a < b
  · exact .inl h1
  · by_cases h2 : b < a
    · exact .inr (.inr h2)
    · exact .inr (.inl (List.le_antisymm (List.not_lt.mp h2) (List.not_lt.mp h1)))
theorem ltK_swo {α : Type} (k : α → Int × List Nat) : Swo fun x y => ltK (k x) (k y) := by
  refine ⟨fun x y h => ltK_no.mpr fun z => ?_, fun x y z h1 h2 => ltK_no.mpr fun h => ?_⟩
  · rcases ltK_iff.mp h with h | ⟨h, h'⟩
    · rcases z with z | ⟨z, _⟩ <;> omega
    · rcases z with z | ⟨_, z'⟩
      · omega
      · exact List.lt_asymm h' z'
  · have a := ltK_no.mp h1
    have b := ltK_no.mp h2
    rcases lt_tri (k y).2 (k x).2 with c | c | c
    · rcases lt_tri (k z).2 (k y).2 with d | d | d
      · rcases h with h | ⟨h, h'⟩
        · apply a; left
          have : ¬ (k z).1 < (k y).1 := fun w => b (.inl w)
          omega
        · have e1 : ¬ (k y).1 < (k x).1 := fun w => a (.inl w)
          have e2 : ¬ (k z).1 < (k y).1 := fun w => b (.inl w)
          exact a (.inr ⟨by omega, c⟩)
      · rcases h with h | ⟨h, h'⟩
        · have e2 : ¬ (k z).1 < (k y).1 := fun w => b (.inl w)
          apply a; left; omega
        · have e1 : ¬ (k y).1 < (k x).1 := fun w => a (.inl w)
          have e2 : ¬ (k z).1 < (k y).1 := fun w => b (.inl w)
          exact a (.inr ⟨by omega, c⟩)
      · rcases h with h | ⟨h, h'⟩
        · have e2 : ¬ (k z).1 < (k y).1 := fun w => b (.inl w)
          apply a; left; omega
        · have e1 : ¬ (k y).1 < (k x).1 := fun w => a (.inl w)
          have e2 : ¬ (k z).1 < (k y).1 := fun w => b (.inl w)
          exact a (.inr ⟨by omega, c⟩)
    · rcases h with h | ⟨h, h'⟩
      · have e1 : ¬ (k y).1 < (k x).1 := fun w => a (.inl w)
        have e2 : ¬ (k z).1 < (k y).1 := fun w => b (.inl w)
        omega
      · have e1 : ¬ (k y).1 < (k x).1 := fun w => a (.inl w)
        have e2 : ¬ (k z).1 < (k y).1 := fun w => b (.inl w)
        exact b (.inr ⟨by omega, by rw [c]; exact h'⟩)
    · rcases h with h | ⟨h, h'⟩
      · have e1 : ¬ (k y).1 < (k x).1 := fun w => a (.inl w)
        have e2 : ¬ (k z).1 < (k y).1 := fun w => b (.inl w)
        omega
      · have e1 : ¬ (k y).1 < (k x).1 := fun w => a (.inl w)
        have e2 : ¬ (k z).1 < (k y).1 := fun w => b (.inl w)
        exact b (.inr ⟨by omega, List.lt_trans h' c⟩)
def IsIS (h : Heap) (v : Value) (x : Int) (y : List Nat) : Prop := ∃ a o t u n, v = .ref a ∧ h.get? a = some o ∧ o.cls = .type "tuple" ∧ o.data = .seq #[.int x t, .str (mkS y) u] n
theorem IsIS.keeps {h h' : Heap} {v : Value} {x : Int} {y : List Nat} (p : IsIS h v x y) (k : ∀ b o, h.get? b = some o → o.cls = .type "tuple" → h'.get? b = some o) : IsIS h' v x y := by
  obtain ⟨a, o, t, u, n, e, ho, hc, hd⟩ := p
  exact ⟨a, o, t, u, n, e, k _ _ ho hc, hc, hd⟩
theorem firstsIS {h : Heap} : ∀ {vs : List Value}, (∀ v ∈ vs, ∃ x y, IsIS h v x y) → ∃ fs : List Value, PySem.W.KatTups h vs fs ∧ fs.length = vs.length ∧ ∀ f ∈ fs, ∃ x t, f = Value.int x t
  | [], _ => ⟨[], PySem.W.KatTups.nil, rfl, fun _ hm => by simp at hm⟩
  | v :: vs, hp => by
    obtain ⟨fs, h1, h2, h3⟩ := firstsIS (vs := vs) fun v' hm => hp v' (List.mem_cons_of_mem _ hm)
    obtain ⟨x, y, a, o, t, u, n, e, ho, hc, hd⟩ := hp v (List.mem_cons_self ..)
    subst e
    refine ⟨.int x t :: fs, PySem.W.KatTups.cons ho hc hd rfl h1, by rw [List.length_cons, List.length_cons, h2], fun f hm => ?_⟩
    rcases List.mem_cons.mp hm with rfl | hm
    · exact ⟨x, t, rfl⟩
    · exact h3 f hm
section
variable {prog : Program} {w : World} {A : Around} {E : Value → Shared → Prop} {s : Shared}
theorem is_cmp {vs : List Value} {k : Value → Int × List Nat} (hp : ∀ v ∈ vs, IsIS s.heap v (k v).1 (k v).2) : Cmp prog w A s (tuples' true) (fun p => p.1 ∈ vs) (lt2 fun v u => ltK (k v) (k u)) := by
  intro p q hm hm'
  have h1 := hp _ hm
  have h2 := hp _ hm'
  show wpAny (model prog w) A (keyLt' (tuples' true) p.1 q.1) (fun r s' => s' = s ∧ r = ltK (k p.1) (k q.1)) (fun _ _ => False) s
  unfold ltK
  generalize (k p.1).1 = x at h1 ⊢
  generalize (k p.1).2 = y at h1 ⊢
  generalize (k q.1).1 = x' at h2 ⊢
  generalize (k q.1).2 = y' at h2 ⊢
  obtain ⟨a, o, t, u, n, e, ho, hc, hd⟩ := h1
  obtain ⟨a', o', t', u', n', e', ho', hc', hd'⟩ := h2
  rw [e, e']
  refine PySem.W.kat_lt ho hd ho' hd' ?_
  show PySem.W.KatLex prog w A true (decide (2 < 2)) _ [(.int x t, .int x' t'), (.str (mkS y) u, .str (mkS y') u')] 0 s
  refine PySem.W.kat_cons (SeqAt.EqAt.int_int x t x' t' prog w _ _ ?_)
  refine PySem.W.kat_go (fun e1 => ?_) (fun e1 => ?_)
  · have ex : x = x' := by simpa using e1
    refine PySem.W.kat_yes (PySem.W.kat_cons (SeqAt.EqAt.str_str (mkS y) u (mkS y') u' prog w _ _ ?_))
    refine PySem.W.kat_go (fun e2 => ?_) (fun e2 => ?_)
    · have ey : y = y' := mkS_inj.mp (beq_iff_eq.mp e2)
      have e3 : decide (x < x' ∨ (x = x' ∧ y < y')) = false := decide_eq_false fun z => by
        rcases z with z | ⟨_, z⟩
        · omega
        · rw [ey] at z; exact List.lt_irrefl _ z
      exact PySem.W.kat_yes (PySem.W.kat_nil ⟨rfl, e3.symm⟩)
    · refine PySem.W.kat_no (PySem.W.kat_one _ _ (PyProof.Rows.lt_str ?_))
      have e3 : decide ((mkS y).cps.toList < (mkS y').cps.toList) = decide (x < x' ∨ (x = x' ∧ y < y')) := by
        rw [mkS_cps, mkS_cps, Bool.eq_iff_iff, decide_eq_true_iff, decide_eq_true_iff]
        exact ⟨fun z => .inr ⟨ex, z⟩, fun z => z.elim (fun z => by omega) fun z => z.2⟩
      exact ⟨rfl, e3⟩
  · have ex : ¬ x = x' := by simpa using e1
    have e3 : decide (x < x' ∨ (x = x' ∧ y < y')) = decide (x < x') := by
      rw [Bool.eq_iff_iff, decide_eq_true_iff, decide_eq_true_iff]
      exact ⟨fun z => z.elim id fun z => absurd z.1 ex, .inl⟩
    exact PySem.W.kat_no (oneLt_int ⟨rfl, e3.symm⟩)
theorem is_sortable {a : Addr} {vs : List Value} {k : Value → Int × List Nat} (h0 : 0 < vs.length) (hp : ∀ v ∈ vs, IsIS s.heap v (k v).1 (k v).2) (ha : ∀ o, s.heap.get? a = some o → o.cls ≠ .type "tuple") : SortableO prog w A s a vs fun v u => ltK (k v) (k u) := by
  intro h' keep
  have hp' : ∀ v ∈ vs, IsIS h' v (k v).1 (k v).2 := fun v hm => (hp v hm).keeps fun b o e c => keep b o (fun z => by subst z; exact ha o e c) e
  obtain ⟨fs, h1, h2, h3⟩ := firstsIS fun v hm => ⟨_, _, hp' v hm⟩
  refine ⟨tuples' true, fun Q E hq => ?_, is_cmp hp'⟩
  refine PySem.W.kat_kind (T := .type "int") h1 (by omega) (fun f hm => ?_) (by rfl) ?_
  · obtain ⟨x, t, rfl⟩ := h3 f hm
    exact PySem.W.Looks.now
  · have e : (Value.type "int" != Value.type "tuple") = true := by first | decide +kernel | rfl | decide
    rw [e]
    exact hq
theorem sorted_is {l : Addr} {vs : List Value} {k : Value → Int × List Nat} {Q : Value → Shared → Prop} (hl : s.heap.IsList l vs.toArray) (hz : vs.length ≤ sizeLine) (hp : ∀ v ∈ vs, IsIS s.heap v (k v).1 (k v).2)
    (h : ∀ (h' : Heap) (d : Addr) (out : List Value), Srtd (fun v u => ltK (k v) (k u)) out → Stb (fun v u => ltK (k v) (k u)) out vs → (∀ b o, s.heap.get? b = some o → h'.get? b = some o) → s.heap.objs.size ≤ d → (∃ n, h'.get? d = some (seqObj "list" out.toArray n)) → Q (.ref d) { s with heap := h' }) :
    wpAny (model prog w) A (call (.builtin "sorted") [.ref l]) Q E s := by
  refine sorted_ord (ltK_swo k) hl hz (fun h2 h₁ a ha kk => ?_) fun out hs hb => ?_
  · refine is_sortable (s := { s with heap := h₁ }) (by omega) (fun v hm => (hp v hm).keeps fun b o e _ => (kk b o e).2) fun o e => ?_
    have e' : some o = some (seqObj "list" vs.toArray 0) := e.symm.trans ha
    cases e'
    intro c
    exact absurd (Value.type.inj c) (by decide)
  · exact h _ _ out hs hb (fun b o e => sortedAll_old e) (Nat.le_succ _) (sortedAll_at s.heap vs out.toArray)
end
/-- sorted(xs), xs a list of pairs of a number and a text (k says which) -/
def rSortIS (K : PySem.W.Frag) : List V → Hp → VK → Prop := fun vs H Q => ∃ (a : Addr) (xs : List V) (k : V → Int × List Nat), vs = [V.ref a] ∧ SqL K H a xs ∧ (∀ x ∈ xs, ∃ t, x = V.ref t ∧ H t = some (.tup [.int (k x).1, .str (mkS (k x).2)])) ∧
  ∀ ys p, ys.Pairwise (fun x y => ltK (k y) (k x) = false) → ys.Perm xs → H p = none → Q (.ref p) (upd H p (.lst ys))
theorem c_sortIS {X : Cx} : CallR X (.builtin "sorted") (rSortIS X.K) := by
  intro pins s σ H vs us Q I r h
  obtain ⟨a, xs, k, rfl, hs, hx, q⟩ := h
  obtain ⟨its, rv, hl, hz⟩ := I.list hs
  obtain ⟨u, rfl, ru⟩ := vals1 r
  obtain rfl : u = Value.ref a := ru
  obtain ⟨e1, e2⟩ := refs_back rv fun x m => by
    obtain ⟨t, e, _⟩ := hx x m
    exact ⟨t, e⟩
  refine sorted_is (k := fun u => k (backV u)) hl.isList (by rw [← rv.length]; exact hz) (fun v hv => ?_) fun h' d out h1 h2 kp hd hn => ?_
  · obtain ⟨t, rfl⟩ := e2 v hv
    have hm : V.ref t ∈ xs := by rw [e1]; exact List.mem_map.mpr ⟨_, hv, rfl⟩
    obtain ⟨t', e, ht⟩ := hx _ hm
    cases e
    obtain ⟨_, its2, r2, o, ho, hc, n, hd⟩ := I.hok _ _ ht
    obtain ⟨u1, u2, rfl, ri, rj⟩ := vals2 r2
    obtain ⟨t1, rfl⟩ := ri
    obtain ⟨t2, rfl⟩ := rj
    exact ⟨t, o, t1, t2, n, rfl, ho, hc, hd⟩
  · have h3 : ∀ u ∈ out, ∃ a, u = Value.ref a := fun u hu => e2 u (h2.perm.mem_iff.mp hu)
    obtain ⟨n, hn⟩ := hn
    have hp : (out.map backV).Perm xs := by
      rw [e1]
      exact h2.perm.map backV
    refine ⟨.ref d, upd H d (.lst (out.map backV)), I.laid (t' := s.toks) kp hd ⟨?_, out, n, vals_back h3, hn⟩, rfl, q _ d (SrtO.srtd_map h1) hp (I.hok.fresh hd)⟩
    rw [hp.length_eq]
    exact hz
end N0

/-! B27: near words. -/
namespace N0
open PySem PySem.Spec PyProof.Rows L2
theorem g_inLg {K : PySem.W.Frag} {g : TG} {tb : TS} {nx bk ct : L2.St → Hp → Prop} {rt : VK} {σ : L2.St} {H : Hp} {a : Addr} {xs : List V} (hS : SqL K H a xs) (Pv : Nat → L2.St → Hp → Prop) (p0 : Pv 0 σ H) (hl : ∀ i σ' H', i ≤ xs.length → Pv i σ' H' → SqL K H' a xs)
    (hs : ∀ (i : Nat) x σ' H', xs[i]? = some x → Pv i σ' H' → g x σ' H' fun σ2 H2 => tb (Ends.mk (Pv (i + 1)) rt nx (Pv (i + 1))) σ2 H2) (hd : ∀ σ' H', Pv xs.length σ' H' → nx σ' H') :
    qList K (kFor g tb (Ends.mk nx rt bk ct) σ) (.ref a) H :=
  ⟨a, rfl, ⟨xs, hS⟩, for_it (walk_list (xs := xs)) Pv p0 hl (fun i x σ' H1 H' hi p y => by obtain ⟨rfl, hx⟩ := y; exact hs i x σ' _ hx p) hd⟩
/-- a pair of a distance and a text -/
def PairV (l : List Nat) (H : Hp) (x : V) (q : List Nat) : Prop := ∃ t, x = .ref t ∧ H t = some (.tup [.int ((Lv.lev q l : Nat)), .str (mkS q)])
def keyOf (H : Hp) : V → Int × List Nat
  | .ref t => (match H t with
    | some (.tup [.int i, .str z]) => (i, z.cps.toList)
    | _ => (0, []))
  | _ => (0, [])
theorem PairV.key {l : List Nat} {H : Hp} {x : V} {q : List Nat} (h : PairV l H x q) : keyOf H x = (((Lv.lev q l : Nat) : Int), q) := by
  obtain ⟨t, rfl, e⟩ := h
  unfold keyOf
  simp only [e, mkS_cps]
theorem PairV.same {l : List Nat} {H H' : Hp} {x : V} {q : List Nat} (h : PairV l H x q) (s : Same H H') : PairV l H' x q := let ⟨t, e, k⟩ := h; ⟨t, e, s _ _ k⟩
theorem PairV.but {l : List Nat} {H H' : Hp} {x : V} {q : List Nat} {A : Addr} {o : List V} (h : PairV l H x q) (b : But A H H') (hA : H A = some (.lst o)) : PairV l H' x q := by
  obtain ⟨t, e, k⟩ := h
  exact ⟨t, e, b _ _ k fun z => by rw [z, hA] at k; cases k⟩
theorem Each.mem {R : V → List Nat → Prop} {xs : List V} {qs : List (List Nat)} (e : Each R xs qs) {x : V} (h : x ∈ xs) : ∃ q ∈ qs, R x q := by
  obtain ⟨i, hi, rfl⟩ := List.getElem_of_mem h
  have hq : i < qs.length := by rw [← e.len]; exact hi
  exact ⟨qs[i], List.getElem_mem hq, e.at_ i _ _ (List.getElem?_eq_getElem hi) (List.getElem?_eq_getElem hq)⟩
theorem Each.keys {l : List Nat} {H : Hp} : ∀ {xs : List V} {qs : List (List Nat)}, Each (PairV l H) xs qs → xs.map (fun x => (keyOf H x).2) = qs
  | [], [], _ => rfl
  | [], _ :: _, e => by have := e.len; simp at this
  | _ :: _, [], e => by have := e.len; simp at this
  | x :: xs, q :: qs, e => by
    have h := e.at_ 0 x q rfl rfl
    rw [List.map_cons, h.key, Each.keys (xs := xs) (qs := qs) ⟨by have := e.len; simpa using this, fun i y r a b => e.at_ (i + 1) y r a b⟩]
/-- by distance, then by the alphabet -/
def nearLt (l : List Nat) (a b : List Nat) : Prop := Lv.lev l a < Lv.lev l b ∨ (Lv.lev l a = Lv.lev l b ∧ a < b)
theorem nearLt_ne {l a b : List Nat} (h : nearLt l a b) : a ≠ b := fun z => by
  subst z
  rcases h with h | ⟨_, h⟩
  · omega
  · exact List.lt_irrefl _ h
/-- the sorted pairs -/
theorem sorted_words {l : List Nat} {H : Hp} {xs ys : List V} {qs : List (List Nat)} (e : Each (PairV l H) xs qs) (nd : qs.Nodup) (p : ys.Perm xs) (s : ys.Pairwise fun x y => ltK (keyOf H y) (keyOf H x) = false) :
    ∃ ws : List (List Nat), Each (PairV l H) ys ws ∧ ws.Perm qs ∧ ws.Pairwise (nearLt l) := by
  have hy : ∀ y ∈ ys, ∃ q ∈ qs, PairV l H y q := fun y h => e.mem (p.mem_iff.mp h)
  have hp : (ys.map fun x => (keyOf H x).2).Perm qs := by
    have := p.map fun x => (keyOf H x).2
    rw [e.keys] at this
    exact this
  have each : Each (PairV l H) ys (ys.map fun x => (keyOf H x).2) := by
    refine ⟨by rw [List.length_map], fun i x q a b => ?_⟩
    rw [List.getElem?_map, a] at b
    injection b with b
    obtain ⟨q', _, h⟩ := hy x (List.mem_of_getElem? a)
    have b : (keyOf H x).2 = q := b
    rw [h.key] at b
    rw [← b]; exact h
  refine ⟨_, each, hp, List.pairwise_map.mpr ?_⟩
  have nd2 : ys.Pairwise fun x y => (keyOf H x).2 ≠ (keyOf H y).2 := List.pairwise_map.mp (hp.nodup_iff.mpr nd)
  refine (List.pairwise_iff_getElem.mpr fun i j hi hj hij => ?_)
  have h1 := List.pairwise_iff_getElem.mp s i j hi hj hij
  have h2 := List.pairwise_iff_getElem.mp nd2 i j hi hj hij
  obtain ⟨a, _, ka⟩ := hy ys[i] (List.getElem_mem hi)
  obtain ⟨b, _, kb⟩ := hy ys[j] (List.getElem_mem hj)
  rw [ka.key, kb.key] at h1 h2 ⊢
  have h1 := ltK_no.mp h1
  have h2 : a ≠ b := h2
  show nearLt l a b
  unfold nearLt
  rw [Lv.lev_symm l a, Lv.lev_symm l b]
  rcases lt_tri a b with c | c | c
  · by_cases d : Lv.lev a l < Lv.lev b l
    · exact .inl d
    · refine .inr ⟨?_, c⟩
      have : ¬ ((Lv.lev b l : Nat) : Int) < ((Lv.lev a l : Nat) : Int) := fun z => h1 (.inl z)
      omega
  · exact absurd c h2
  · refine .inl ?_
    have e1 : ¬ ((Lv.lev b l : Nat) : Int) < ((Lv.lev a l : Nat) : Int) := fun z => h1 (.inl z)
    have e2 : ¬ ((Lv.lev b l : Nat) : Int) = ((Lv.lev a l : Nat) : Int) := fun z => h1 (.inr ⟨z, c⟩)
    omega
/-- what is told of a near word: it and changes that lead there; the list of changes is new -/
def NearV (H0 : Hp) (D : Addr) (l : List Nat) (H : Hp) (x : V) (w : List Nat) : Prop := ∃ a p cs os, x = .ref a ∧ H a = some (.tup [.str (mkS w), .ref p]) ∧ H p = some (.lst cs) ∧ cs.length = os.length ∧ (∀ (i : Nat) x o, cs[i]? = some x → os[i]? = some o → Cg H x o) ∧ ledR l os = some w ∧ os.length = Lv.lev l w ∧ H0 p = none ∧ p ≠ D
theorem cg_but {H H' : Hp} {D : Addr} {xs : List V} {x : V} {o : Option (List V)} {ys : List V} (c : Cg H x o) (b : But D H H') (hD : H D = some (.lst xs)) (hD' : H' D = some (.lst ys)) : Cg H' x o := by
  have kk : ∀ {v : V} {Tn : String}, Kn H v Tn → Kn H' v Tn := fun {v Tn} k => by
    cases k with
    | non => exact .non
    | bl b => exact .bl b
    | int i => exact .int i
    | str z => exact .str z
    | @lst x zs e =>
      by_cases hx : x = D
      · subst hx; exact .lst hD'
      · exact .lst (b _ _ e hx)
    | @tup x zs e => exact .tup (b _ _ e (fun z => by rw [z, hD] at e; cases e))
    | @dK x zs e => exact .dK (b _ _ e (fun z => by rw [z, hD] at e; cases e))
  cases c with
  | no k nn => exact .no (kk k) nn
  | @tup z zs e k => exact .tup (b _ _ e (fun q => by rw [q, hD] at e; cases e)) fun v hv => let ⟨y, Tn, k1⟩ := k v hv; ⟨y, Tn, kk k1⟩
theorem NearV.same {H0 H H' : Hp} {D : Addr} {l : List Nat} {x : V} {w : List Nat} (n : NearV H0 D l H x w) (s : Same H H') : NearV H0 D l H' x w := by
  obtain ⟨a, p, cs, os, e1, e2, e3, e4, e5, e6⟩ := n
  exact ⟨a, p, cs, os, e1, s _ _ e2, s _ _ e3, e4, fun i x o h k => (e5 i x o h k).same s, e6⟩
theorem NearV.but {H0 H H' : Hp} {D : Addr} {l : List Nat} {x : V} {w : List Nat} {xs ys : List V} (n : NearV H0 D l H x w) (b : But D H H') (hD : H D = some (.lst xs)) (hD' : H' D = some (.lst ys)) : NearV H0 D l H' x w := by
  obtain ⟨a, p, cs, os, e1, e2, e3, e4, e5, e6, e7, e8, e9⟩ := n
  exact ⟨a, p, cs, os, e1, b _ _ e2 (fun z => by rw [z, hD] at e2; cases e2), b _ _ e3 e9, e4, fun i x o h k => cg_but (e5 i x o h k) b hD hD', e6, e7, e8, e9⟩
/-- told are just the words that are near, in order -/
structure NearW (W : List (List Nat)) (m : Nat) (l : List Nat) (ws : List (List Nat)) : Prop where
  up : ws.Pairwise (nearLt l)
  mem : ∀ w, w ∈ ws ↔ w ∈ W ∧ Lv.lev l w ≤ m
def spNear (CN CT C CM T : Addr) : Sp := fun vs H Q E => ∃ (t : Addr) (x y : V) (U V : String) (W : List (List Nat)) (F : Addr → Prop), vs = [.ref t, x, y] ∧ Kn H x U ∧ Sh x ∧ Kn H y V ∧ Tb H T ∧ TreeV CN CT H t W F ∧ W.length ≤ 400 ∧
  (∀ l m, x = .str (mkS l) → y = .int (m : Nat) → Wd l → l.length ≤ 24 → m ≤ 24 → ∀ ws xs D H', NearW W m l ws → Same H H' → H D = none → H' D = some (.lst xs) → Each (NearV H D l H') xs ws → Q (.ref D) H') ∧
  (wordB x = false → ∀ H', Same H H' → E (.ref C) none H') ∧ (wordB x = true → okP 25 y = false → ∀ H', Same H H' → E (.ref CM) none H')
def spNear0 (CN CT T : Addr) : Sp := fun vs H Q _ => ∃ (t : Addr) (l : List Nat) (m : Nat) (W : List (List Nat)) (F : Addr → Prop), vs = [.ref t, .str (mkS l), .int (m : Nat)] ∧ Wd l ∧ l.length ≤ 24 ∧ m ≤ 24 ∧ Tb H T ∧ TreeV CN CT H t W F ∧ W.length ≤ 400 ∧
  ∀ ws xs D H', NearW W m l ws → Same H H' → H D = none → H' D = some (.lst xs) → Each (NearV H D l H') xs ws → Q (.ref D) H'
theorem near_quiet {CN CT C CM T : Addr} {vs : List V} {H : Hp} {Q : VK} {E : XK} (h : spNear0 CN CT T vs H Q E) : spNear CN CT C CM T vs H Q E0 := by
  obtain ⟨t, l, m, W, F, rfl, hw, hl, hm, hT, tv, h4, q⟩ := h
  refine ⟨t, _, _, _, _, W, F, rfl, kn_str, sh_str (by omega), .int _, hT, tv, h4, fun l' m' e1 e2 _ _ _ => ?_, fun h => ?_, fun _ h => ?_⟩
  · injection e1 with e1
    injection e2 with e2
    have e3 : m = m' := by omega
    rw [← mkS_inj.mp e1, ← e3]; exact q
  · rw [wordB_wd hl hw] at h; cases h
  · rw [okP_nat (by omega)] at h; cases h
theorem nearb_of {m : Nat} {q l : List Nat} (h : Lv.lev q l ≤ m) : Lv.Nearb m q l := ⟨l.length, Nat.le_refl _, by rw [List.take_length]; exact h⟩
end N0

/-! B28: what is told of near words, by a law's hands. -/
namespace N0
open PySem PySem.Spec PyProof.Rows L2
/-! ### < of pairs of a number and a text -/
def rLtIS (K : PySem.W.Frag) : R2 := fun x y H Q => ∃ a b i j l r, x = .ref a ∧ y = .ref b ∧ SqT K H a [.int i, .str (mkS l)] ∧ SqT K H b [.int j, .str (mkS r)] ∧ Q (.bl (ltK (i, l) (j, r))) H
theorem op_ltIS {X : Cx} (hu : X.A.units + 64 < cLine) : OpR X (compareOp .Lt) (rLtIS X.K) := by
  intro pins s σ H x y v u Q I rx ry h
  obtain ⟨a, b, i, j, l, r, rfl, rfl, ha, hb, q⟩ := h
  have d1 : Dp X.K H (.ref a) (.tuple [.int i, .str (mkS l)]) := .tup ha (.cons (.int _) (.cons (.str _) .nil))
  have d2 : Dp X.K H (.ref b) (.tuple [.int j, .str (mkS r)]) := .tup hb (.cons (.int _) (.cons (.str _) .nil))
  obtain ⟨as, r1⟩ := Dp.reads I _ _ v d1 rx
  obtain ⟨bs, r2⟩ := Dp.reads I _ _ u d2 ry
  have e : PySem.W.DatumOrd.lt ((i, mkS l) : Int × Str) (j, mkS r) = ltK (i, l) (j, r) := by
    show (if i = j then decide ((mkS l).cps.toList < (mkS r).cps.toList) else decide (i < j)) = _
    unfold ltK
    rw [mkS_cps, mkS_cps]
    by_cases h : i = j
    · rw [if_pos h, Bool.eq_iff_iff, decide_eq_true_iff, decide_eq_true_iff]
      exact ⟨fun z => .inr ⟨h, z⟩, fun z => z.elim (fun z => by have : i < j := z; omega) fun z => z.2⟩
    · rw [if_neg h, Bool.eq_iff_iff, decide_eq_true_iff, decide_eq_true_iff]
      exact ⟨.inl, fun z => z.elim id fun z => absurd z.1 h⟩
  have dep : PySem.W.Datum.depth (Int × Str) ≤ 64 := by decide
  exact PySem.W.lt_datum (x := ((i, mkS l) : Int × Str)) (y := (j, mkS r)) ⟨as, r1⟩ ⟨bs, r2⟩ (by omega) (by rw [e]; exact ⟨.bl _, H, I, rfl, q⟩)
theorem g_ltIS {K : PySem.W.Frag} {H : Hp} {Q : VK} {a b : Addr} {i j : Int} {l r : List Nat} (ha : SqT K H a [.int i, .str (mkS l)]) (hb : SqT K H b [.int j, .str (mkS r)]) (q : Q (.bl (ltK (i, l) (j, r))) H) : rLtIS K (.ref a) (.ref b) H Q := ⟨a, b, i, j, l, r, rfl, rfl, ha, hb, q⟩
theorem neD_nil {K : PySem.W.Frag} {H : Hp} {Q : VK} {p q : Addr} (hp : SqL K H p []) (hq : SqL K H q []) (r : Q (.bl false) H) : rNeD K (.ref p) (.ref q) H Q := by
  refine ⟨.list [], .list [], .lst hp .nil, .lst hq .nil, by decide +kernel, by decide +kernel, ?_⟩
  rw [SeqAt.eqv_refl _ rfl]; exact r
/-! ### in a list of words -/
theorem inV_words {w : List Nat} : ∀ ws : List (List Nat), inV (.str (mkS w)) (wordsV ws) = decide (w ∈ ws)
  | [] => by simp [inV, wordsV]
  | u :: r => by
    have ih := inV_words (w := w) r
    unfold inV wordsV at ih ⊢
    rw [List.map_cons, List.any_cons, ih]
    have e : eqV (.str (mkS u)) (.str (mkS w)) = decide (u = w) := by
      show decide (mkS u = mkS w) = _
      rw [Bool.eq_iff_iff, decide_eq_true_iff, decide_eq_true_iff]
      exact mkS_inj
    rw [e, Bool.eq_iff_iff, Bool.or_eq_true, decide_eq_true_iff, decide_eq_true_iff, decide_eq_true_iff, List.mem_cons]
    exact ⟨fun z => z.elim (fun y => .inl y.symm) .inr, fun z => z.elim (fun y => .inl y.symm) .inr⟩
theorem flat_words (ws : List (List Nat)) : (wordsV ws).all flatV = true := by
  unfold wordsV
  rw [List.all_map, List.all_eq_true]
  intro x _; rfl
theorem g_inW {K : PySem.W.Frag} {H : Hp} {Q : VK} {p : Addr} {ws : List (List Nat)} {w : List Nat} (h : SqL K H p (wordsV ws)) (q : Q (.bl (decide (w ∈ ws))) H) : rIn K false (.str (mkS w)) (.ref p) H Q :=
  ⟨p, _, rfl, .inl h, rfl, flat_words ws, by rw [if_neg (by decide), inV_words]; exact q⟩
theorem g_notInW {K : PySem.W.Frag} {H : Hp} {Q : VK} {p : Addr} {ws : List (List Nat)} {w : List Nat} (h : SqL K H p (wordsV ws)) (q : Q (.bl (!decide (w ∈ ws))) H) : rIn K true (.str (mkS w)) (.ref p) H Q :=
  ⟨p, _, rfl, .inl h, rfl, flat_words ws, by rw [if_pos rfl, inV_words]; exact q⟩
/-! ### numbers by words -/
def numK (f : List Nat → Nat) (ws : List (List Nat)) : List (Key × V) := ws.map fun w => (Sum.inr (mkS w), V.int (f w : Nat))
theorem valV_numK {f : List Nat → Nat} {q : List Nat} : ∀ ws : List (List Nat), valV (numK f ws) (Sum.inr (mkS q) : Key) = if q ∈ ws then some (.int (f q : Nat)) else none
  | [] => rfl
  | d :: r => by
    have ih := valV_numK (f := f) (q := q) r
    show valV ((Sum.inr (mkS d), V.int (f d : Nat)) :: numK f r) (Sum.inr (mkS q) : Key) = _
    by_cases e : d = q
    · subst e
      rw [valV_pos rfl, if_pos (List.mem_cons_self ..)]
    · rw [valV_neg (fun z => e (by injection z with z; exact mkS_inj.mp z)), ih]
      by_cases h : q ∈ r
      · rw [if_pos h, if_pos (List.mem_cons_of_mem _ h)]
      · rw [if_neg h, if_neg (fun z => (List.mem_cons.mp z).elim (fun w => e w.symm) h)]
theorem numK_put {f : List Nat → Nat} {ws : List (List Nat)} {w : List Nat} (h : w ∉ ws) : putK (numK f ws) (Sum.inr (mkS w) : Key) (.int (f w : Nat)) = numK f (ws ++ [w]) := by
  rw [putK_new _ (by rw [valV_numK, if_neg h])]
  simp [numK]
theorem numK_len {f : List Nat → Nat} {ws : List (List Nat)} : (numK f ws).length = ws.length := by simp [numK]
section
variable {f : List Nat → Nat} {ws : List (List Nat)} {w : List Nat} {H : Hp} {D : Addr} {Q : VK}
theorem numK_in (e : H D = some (.dK (numK f ws))) (q : Q (.bl (decide (w ∈ ws))) H) : qIn Q (.str (mkS w)) (.ref D) H := by
  refine ⟨D, _, rfl, DGet.k (k := Sum.inr (mkS w)) e, ?_⟩
  rw [valV_numK]
  by_cases h : w ∈ ws
  · rw [if_pos h]; rw [decide_eq_true h] at q; exact q
  · rw [if_neg h]; rw [decide_eq_false h] at q; exact q
theorem numK_notin (e : H D = some (.dK (numK f ws))) (q : Q (.bl (!decide (w ∈ ws))) H) : qNotin Q (.str (mkS w)) (.ref D) H := by
  refine ⟨D, _, rfl, DGet.k (k := Sum.inr (mkS w)) e, ?_⟩
  rw [valV_numK]
  by_cases h : w ∈ ws
  · rw [if_pos h]; rw [decide_eq_true h] at q; exact q
  · rw [if_neg h]; rw [decide_eq_false h] at q; exact q
theorem numK_at (e : H D = some (.dK (numK f ws))) (h : w ∈ ws) (q : Q (.int (f w : Nat)) H) : qAt Q (.ref D) (.str (mkS w)) H := by
  have g : DGet H D (.str (mkS w)) (valV (numK f ws) (Sum.inr (mkS w) : Key)) := DGet.k (k := Sum.inr (mkS w)) e
  rw [valV_numK, if_pos h] at g
  exact ⟨D, _, rfl, g, q⟩
theorem numK_get {i : Nat} {k : Key} {v : V} (h : (numK f ws)[i]? = some (k, v)) : ∃ q, ws[i]? = some q ∧ k = Sum.inr (mkS q) := by
  unfold numK at h
  rw [List.getElem?_map] at h
  cases e : ws[i]? with
  | none => rw [e] at h; cases h
  | some q => rw [e] at h; injection h with h; injection h with h1 h2; exact ⟨q, rfl, h1.symm⟩
end
/-! ### steps of a table -/
theorem lev_down {l : List Nat} {i : Nat} (y : List Nat) (h0 : 0 < i) (h : i ≤ l.length) : Lv.lev (l.take i) y ≤ Lv.lev (l.take (i - 1)) y + 1 := by
  rw [take_last h0 h]
  have h1 := Lv.lev_tri (l.take (i - 1) ++ [l[i - 1]'(by omega)]) (l.take (i - 1)) y
  have h2 := Lv.lev_one (l.take (i - 1)) (l[i - 1]'(by omega))
  rw [Lv.lev_symm] at h2
  omega
theorem lev_right {r : List Nat} {j : Nat} (x : List Nat) (h0 : 0 < j) (h : j ≤ r.length) : Lv.lev x (r.take j) ≤ Lv.lev x (r.take (j - 1)) + 1 := by
  have := lev_down (l := r) (i := j) x h0 h
  rw [Lv.lev_symm (r.take j), Lv.lev_symm (r.take (j - 1))] at this
  exact this
theorem lev_both {l r : List Nat} {i j : Nat} (h0 : 0 < i) (h1 : 0 < j) (hi : i ≤ l.length) (hj : j ≤ r.length) : Lv.lev (l.take i) (r.take j) ≤ Lv.lev (l.take (i - 1)) (r.take (j - 1)) + 1 := by
  have s := Lv.lev_snoc (l.take (i - 1)) (r.take (j - 1)) (l[i - 1]'(by omega)) (r[j - 1]'(by omega))
  rw [← take_last h0 hi, ← take_last h1 hj] at s
  split at s <;> omega
/-! ### promises -/
def spShows : Sp := fun vs H Q _ => ∃ (p : Addr) (qs : List Addr) (l r : List Nat), vs = [.ref p, .str (mkS l), .str (mkS r)] ∧ TabV H p qs l r ∧ l.length ≤ 24 ∧ r.length ≤ 24 ∧ ∀ H', Same H H' → Q (.bl true) H'
def spTold : Sp := fun vs H Q _ => ∃ (H0 : Hp) (p : Addr) (xs : List V) (ws : List (List Nat)) (l : List Nat) (m : Nat), vs = [.ref p, .str (mkS l), .int (m : Nat)] ∧ H p = some (.lst xs) ∧ Each (NearV H0 p l H) xs ws ∧ ws.Pairwise (nearLt l) ∧ (∀ w ∈ ws, Lv.lev l w ≤ m ∧ w.length ≤ 24) ∧ l.length ≤ 24 ∧ ws.length ≤ 400 ∧
  ∀ D H', Same H H' → H D = none → H' D = some (.dK (numK (Lv.lev l) ws)) → Q (.ref D) H'
end N0

/-! B29: a generator expression whose elements make generators of their own. -/
namespace N0
open PySem PySem.Spec PyProof.Rows L2

/-- new generators, all ended or asleep; the old ones as they were -/
structure GG (a b : Array GenState) : Prop where
  sz : a.size ≤ b.size
  old : ∀ k, k < a.size → b[k]? = a[k]?
  new : ∀ k x, a.size ≤ k → b[k]? = some x → x.bare = true
theorem GG.refl (a : Array GenState) : GG a a := ⟨Nat.le_refl _, fun _ _ => rfl, fun k x h e => by rw [Array.getElem?_eq_none h] at e; cases e⟩
theorem GG.trans {a b c : Array GenState} (x : GG a b) (y : GG b c) : GG a c := by
  refine ⟨Nat.le_trans x.sz y.sz, fun k h => (y.old k (Nat.lt_of_lt_of_le h x.sz)).trans (x.old k h), fun k z h e => ?_⟩
  rcases Nat.lt_or_ge k b.size with q | q
  · exact x.new k z h ((y.old k q).symm.trans e)
  · exact y.new k z q e
theorem GG.bare {a b : Array GenState} (x : GG a b) (h : AllBare a) : AllBare b := by
  intro y hy
  obtain ⟨i, hi, rfl⟩ := Array.mem_iff_getElem.mp hy
  rcases Nat.lt_or_ge i a.size with q | q
  · have e := x.old i q
    rw [Array.getElem?_eq_getElem hi, Array.getElem?_eq_getElem q] at e
    injection e with e
    rw [e]; exact h _ (Array.getElem_mem q)
  · exact x.new i _ q (Array.getElem?_eq_getElem hi)
/-- nothing that stood is changed -/
structure Grew (s t : Shared) : Prop where
  heap : ∀ b o, s.heap.get? b = some o → t.heap.get? b = some o
  gens : GG s.gens t.gens
  drawn : t.drawn = s.drawn
  os : t.os = s.os
theorem Grew.refl (s : Shared) : Grew s s := ⟨fun _ _ e => e, GG.refl _, rfl, rfl⟩
theorem Grew.trans {a b c : Shared} (x : Grew a b) (y : Grew b c) : Grew a c := ⟨fun b o e => y.heap b o (x.heap b o e), x.gens.trans y.gens, y.drawn.trans x.drawn, y.os.trans x.os⟩
theorem Grew.keeps {s t : Shared} (k : Keeps s t) : Grew s t := by
  obtain ⟨h', tk, rfl, k⟩ := k
  exact ⟨k, GG.refl _, rfl, rfl⟩
/-- but for the generator's own names and its source -/
structure Went (C : Addr) (wr : List Addr) (s t : Shared) : Prop where
  heap : ∀ b o, b ≠ C → b ∉ wr → s.heap.get? b = some o → t.heap.get? b = some o
  gens : GG s.gens t.gens
  drawn : t.drawn = s.drawn
  os : t.os = s.os
theorem Went.refl (C : Addr) (wr : List Addr) (s : Shared) : Went C wr s s := ⟨fun _ _ _ _ e => e, GG.refl _, rfl, rfl⟩
theorem Went.step {C : Addr} {wr : List Addr} {s t : Shared} (x : Went C wr s t) {h' : Heap} {tk : Nat} (k : ∀ b o, b ≠ C → b ∉ wr → t.heap.get? b = some o → h'.get? b = some o) : Went C wr s { t with heap := h', toks := tk } :=
  ⟨fun b o p q e => k b o p q (x.heap b o p q e), x.gens, x.drawn, x.os⟩
theorem Went.grew {C : Addr} {wr : List Addr} {s t u : Shared} (x : Went C wr s t) (y : Grew t u) : Went C wr s u :=
  ⟨fun b o p q e => y.heap b o (x.heap b o p q e), x.gens.trans y.gens, y.drawn.trans x.drawn, y.os.trans x.os⟩
/-- one of n values is handed out -/
def hands (C : Addr) (fp wr : List Addr) (n : Nat) (F : Nat → Value → Prop) : Protocol := fun m s v t kap =>
  F (n - 1 - m) v ∧ Went C wr s t ∧ ∀ u : Shared, (∀ b ∈ C :: fp, ∀ o, t.heap.get? b = some o → u.heap.get? b = some o) → kap (.send .none) u
def ended (C : Addr) (wr : List Addr) : GenEnd := fun n s r t => r = .ok .next ∧ (n = 0 ∧ Went C wr s t)
/-- the element -/
def Elt (P : Program) (w : World) (cenv : Env) (x : Str) (elt : Expr) (fp wr : List Addr) (Pv : Nat → Value → Prop) (F : Nat → Value → Prop) (h0 : Heap) (D U : Nat) : Prop :=
  ∀ (A : Around) E i v (s : Shared) m, A.handled = none → A.depth ≤ D → A.units ≤ U → Pv i v → s.heap.Ns cenv.locals m → m x = some v → (∀ b ∈ fp, b ∉ wr → ∀ o, h0.get? b = some o → s.heap.get? b = some o) →
    wpAny (model P w) A (eval elt cenv) (fun y t => F i y ∧ Grew s t) E s
section
variable {P : Program} {w : World} {A : Around} {elt iter : Expr} {x : Str} {px : Pos} {scope : Scope} {pos : Pos} {I : Addr} {fp wr : List Addr} {n : Nat} {Pv : Nat → Value → Prop} {St : Nat → Heap → Prop} {cenv : Env} {F : Nat → Value → Prop} {h0 : Heap}
theorem gen_turns (hh : A.handled = none) (W : ∀ B : Around, B.handled = none → Walks P w B I fp wr n Pv St) (hx : cenv.kindOf x = some .local)
    (hp : (cenv.scope.kind == .class || (cenv.scope.kind == .module && cenv.locals != cenv.globals)) = false) (hco : cenv.scope.isCoroutine = false) (hC : cenv.locals ∉ fp)
    (hq : Elt P w cenv x elt fp wr Pv F h0 (A.depth + 1) (A.units + 3)) :
    ∀ (k i : Nat) (s t : Shared) (m : Str → Option Value), n - i = k → i ≤ n → St i t.heap → t.heap.Ns cenv.locals m → Went cenv.locals wr s t → (∀ b ∈ fp, b ∉ wr → ∀ o, h0.get? b = some o → t.heap.get? b = some o) →
      Seg (model P w) A (ended cenv.locals wr) (hands cenv.locals fp wr n F) (n - i) s (.compLoop (.GeneratorExp elt [⟨.Name x px, iter, [], 0⟩] scope pos) 0 (.ref I) .none cenv)
        ((model P w).den (.compLoop (.GeneratorExp elt [⟨.Name x px, iter, [], 0⟩] scope pos) 0 (.ref I) .none cenv)) [] t := by
  have hA : (A.over (.compLoop (.GeneratorExp elt [⟨.Name x px, iter, [], 0⟩] scope pos) 0 (.ref I) .none cenv) []).handled = none := hh
  have hD : (A.over (.compLoop (.GeneratorExp elt [⟨.Name x px, iter, [], 0⟩] scope pos) 0 (.ref I) .none cenv) []).depth ≤ A.depth + 1 := Nat.le_of_eq rfl
  have hU : (A.over (.compLoop (.GeneratorExp elt [⟨.Name x px, iter, [], 0⟩] scope pos) 0 (.ref I) .none cenv) []).units ≤ A.units + 3 := Nat.le_of_eq rfl
  have hW : cenv.locals ∉ wr := fun z => hC ((W A hh).sub _ z)
  intro k
  induction k with
  | zero =>
    intro i s t m hk hi st hn wt _
    obtain rfl : i = n := by omega
    show Seg _ A _ _ _ s _ ((compTurn (.GeneratorExp elt [⟨.Name x px, iter, [], 0⟩] scope pos) 0 (.ref I) .none cenv).onRaise (leaving cenv)) [] t
    rw [compTurn_gen, Sem.onRaise_eq_wrap]
    refine seg_bind_wrap (wpAny_standAt (seg_bind_wrap ((W _ hA).done t _ _ st fun h' tk keep => ?_)))
    exact seg_end (.ok .next) ⟨rfl, Nat.sub_self _, wt.step fun b o _ q e => keep b o q e⟩
  | succ k ih =>
    intro i s t m hk hi st hn wt hkp
    have hlt : i < n := by omega
    obtain ⟨j, hj⟩ : ∃ j, n - i = j + 1 := ⟨n - i - 1, by omega⟩
    show Seg _ A _ _ _ s _ ((compTurn (.GeneratorExp elt [⟨.Name x px, iter, [], 0⟩] scope pos) 0 (.ref I) .none cenv).onRaise (leaving cenv)) [] t
    rw [compTurn_gen, Sem.onRaise_eq_wrap, hj]
    refine seg_bind_wrap (wpAny_standAt (seg_bind_wrap ((W _ hA).item i t _ _ hlt st fun v h1 tk hv st1 k1 => ?_)))
    refine seg_bind_wrap (wpAny_of_eq (rfl : letOwnedTupleGo (.Name x px) (.ref I) v = pure ()) ?_)
    refine seg_bind_wrap (wpAny_assign_Name (wpAny_storeName_local hx (hn.at' fun o e => k1 _ o hW e) (fun h2 hn2 sb => ?_) hp))
    have up : ∀ b o, b ≠ cenv.locals → b ∉ wr → t.heap.get? b = some o → h2.get? b = some o := fun b o p q e => sb.extBut b o p (k1 b o q e)
    have st2 : St (i + 1) h2 := (W A hh).frame _ _ _ st1 fun b hb o e => sb.extBut b o (fun z => hC (z ▸ hb)) e
    have kp2 : ∀ b ∈ fp, b ∉ wr → ∀ o, h0.get? b = some o → h2.get? b = some o := fun b hb q o e => up b o (fun z => hC (z ▸ hb)) q (hkp b hb q o e)
    have wt2 : Went cenv.locals wr s { t with heap := h2, toks := tk + 1 } := wt.step fun b o p q e => up b o p q e
    refine seg_bind_wrap (wpAny_of_eq (a := true) (by rw [List.forIn_nil]) ?_)
    simp only [if_true]
    have hy : ∀ v, yieldOut cenv v = yieldValue v := fun v => by simp only [yieldOut, hco, Bool.false_eq_true, if_false]
    simp only [hy]
    rw [Sem.bind_eq_wrap', Sem.bind_eq_wrap', Sem.wrap_wrap, Sem.wrap_wrap]
    refine seg_wrap (wpAny_mono (hq _ _ i v _ _ hA hD hU hv hn2 (by simp) kp2) (fun y t4 r => ?_) fun _ _ e => e)
    obtain ⟨hF, gr⟩ := r
    have hidx : n - 1 - j = i := by omega
    refine seg_at (seg_yield rfl rfl rfl ⟨by show F (n - 1 - j) y; rw [hidx]; exact hF, wt2.grew gr, fun u hal => ?_⟩)
    have again := ih (i + 1) u u _ (by omega) hlt ((W A hh).frame _ _ _ st2 fun b hb o e => hal b (List.mem_cons_of_mem _ hb) o (gr.heap b o e))
      (hn2.at' fun o e => hal _ (List.mem_cons_self ..) o (gr.heap _ o e)) (Went.refl _ _ _) fun b hb q o e => hal b (List.mem_cons_of_mem _ hb) o (gr.heap b o (kp2 b hb q o e))
    have ej : n - (i + 1) = j := by omega
    rw [ej] at again
    exact seg_again rfl again
theorem gen_start (hh : A.handled = none) (W : ∀ B : Around, B.handled = none → Walks P w B I fp wr n Pv St) (hx : cenv.kindOf x = some .local)
    (hp : (cenv.scope.kind == .class || (cenv.scope.kind == .module && cenv.locals != cenv.globals)) = false) (hco : cenv.scope.isCoroutine = false) (hC : cenv.locals ∉ fp)
    (hq : Elt P w cenv x elt fp wr Pv F h0 (A.depth + 1) (A.units + 3)) (t : Shared) (m : Str → Option Value) (st : St 0 t.heap) (hn : t.heap.Ns cenv.locals m) (hkp : ∀ b ∈ fp, b ∉ wr → ∀ o, h0.get? b = some o → t.heap.get? b = some o) :
    Seg (model P w) A (ended cenv.locals wr) (hands cenv.locals fp wr n F) n t (.compStart (.GeneratorExp elt [⟨.Name x px, iter, [], 0⟩] scope pos) 0 (.ref I) .none cenv)
      ((model P w).den (.compStart (.GeneratorExp elt [⟨.Name x px, iter, [], 0⟩] scope pos) 0 (.ref I) .none cenv)) [] t := by
  have hA : (A.over (.compStart (.GeneratorExp elt [⟨.Name x px, iter, [], 0⟩] scope pos) 0 (.ref I) .none cenv) []).handled = none := hh
  have loop := gen_turns (iter := iter) (px := px) (scope := scope) (pos := pos) hh W hx hp hco hC hq n 0 t t m (Nat.sub_zero _) (Nat.zero_le _) st hn (Went.refl _ _ _) hkp
  rw [Nat.sub_zero] at loop
  show Seg _ A _ _ _ t _ ((compStart (.GeneratorExp elt [⟨.Name x px, iter, [], 0⟩] scope pos) 0 (.ref I) .none cenv).onRaise (leaving cenv)) [] t
  unfold compStart
  rw [Sem.onRaise_eq_wrap]
  show Seg _ A _ _ _ t _ ((ask >>= _).wrap _ _ _ _) [] t
  refine seg_bind_wrap (wpAny_askSetting ?_)
  split
  · exact seg_again rfl loop
  · refine seg_bind_wrap (wpAny_rule ?_)
    show Seg _ A _ _ _ t _ ((standAt iter.pos >>= _).wrap _ _ _ _) [] t
    exact seg_bind_wrap (wpAny_standAt (seg_bind_wrap ((W _ hA).self 0 t _ _ st (seg_again rfl loop))))
/-- the generator number g, in the object at a, behind j values -/
def AtGen (P : Program) (w : World) (A : Around) (a : Addr) (g : Nat) (C : Addr) (fp wr : List Addr) (n : Nat) (F : Nat → Value → Prop) (j : Nat) (s : Shared) : Prop :=
  s.heap.IsGen a g ∧ s.heap.NoLimit ∧ ∃ gs, s.gens[g]? = some gs ∧ ∀ u : Shared, (∀ b ∈ C :: fp, ∀ o, s.heap.get? b = some o → u.heap.get? b = some o) →
    gs.Goes (model P w) A.in1 (ended C wr) (hands C fp wr n F) (n - j) (.send .none) u
/-- only the g-th changes, but new ones come -/
def GOne (g : Nat) (a b : Array GenState) : Prop := b = a ∨ (a.size ≤ b.size ∧ (∀ k, k < a.size → k ≠ g → b[k]? = a[k]?) ∧ (∀ x, b[g]? = some x → x.bare = true) ∧ ∀ k x, a.size ≤ k → b[k]? = some x → x.bare = true)
theorem GOne.trans {g : Nat} {a b c : Array GenState} (x : GOne g a b) (y : GOne g b c) : GOne g a c := by
  rcases x with rfl | ⟨x1, x2, x3, x4⟩
  · exact y
  · rcases y with rfl | ⟨y1, y2, y3, y4⟩
    · exact .inr ⟨x1, x2, x3, x4⟩
    · refine .inr ⟨Nat.le_trans x1 y1, fun k h q => (y2 k (Nat.lt_of_lt_of_le h x1) q).trans (x2 k h q), y3, fun k z h e => ?_⟩
      by_cases q : k = g
      · subst q; exact y3 z e
      · rcases Nat.lt_or_ge k b.size with l | l
        · exact x4 k z h ((y2 k l q).symm.trans e)
        · exact y4 k z l e
theorem GOne.of {g : Nat} {s t : Shared} {gs y z : GenState} (h : s.gens[g]? = some gs) (w : GG (s.setGen g z).gens t.gens) (hy : y.bare = true) : GOne g s.gens (t.setGen g y).gens ∧ (t.setGen g y).gens[g]? = some y := by
  have hg : g < s.gens.size := (Array.getElem?_eq_some_iff.mp h).1
  have sz : ∀ (s : Shared) (x : GenState), (s.setGen g x).gens.size = s.gens.size := fun s x => by simp [Shared.setGen]
  have ne : ∀ (s : Shared) (x : GenState) k, k ≠ g → (s.setGen g x).gens[k]? = s.gens[k]? := fun s x k q => by simp [Shared.setGen, Ne.symm q]
  have h1 : s.gens.size ≤ t.gens.size := by have := w.sz; rw [sz] at this; exact this
  have here : (t.setGen g y).gens[g]? = some y := by
    have : g < t.gens.size := Nat.lt_of_lt_of_le hg h1
    simp [Shared.setGen, this]
  refine ⟨.inr ⟨by rw [sz]; exact h1, fun k hk q => ?_, fun x e => ?_, fun k x hk e => ?_⟩, here⟩
  · rw [ne _ _ _ q, w.old k (by rw [sz]; exact hk), ne _ _ _ q]
  · rw [here] at e; injection e with e; rw [← e]; exact hy
  · have q : k ≠ g := fun z => by omega
    rw [ne _ _ _ q] at e
    exact w.new k x (by rw [sz]; exact hk) e
theorem gen_walks (hh : A.handled = none) (a : Addr) (g : Nat) (C : Addr) (fp wr : List Addr) (n : Nat) (F : Nat → Value → Prop) (aC : a ≠ C) (af : a ∉ fp) (sub : ∀ b ∈ wr, b ∈ fp) (hroom : A.depth < recursionLimit)
    (cs : cStatics ∈ fp) (csC : cStatics ≠ C) (csw : cStatics ∉ wr) : WalksS P w A a (a :: C :: fp) (C :: wr) (GOne g) n F (AtGen P w A a g C fp wr n F) where
  sub := fun b hb => by
    rcases List.mem_cons.mp hb with rfl | hb
    · simp
    · exact List.mem_cons_of_mem _ (List.mem_cons_of_mem _ (sub b hb))
  grefl := fun _ => .inl rfl
  gtrans := fun _ _ _ x y => x.trans y
  frame := fun j s h' tk st _ hk => by
    obtain ⟨⟨o, nm, qn, ho, r⟩, ⟨mc, hns, hnn⟩, gs, hgs, go⟩ := st
    exact ⟨⟨o, nm, qn, hk a (List.mem_cons_self ..) o ho, r⟩, ⟨mc, hns.at' fun o e => hk cStatics (List.mem_cons_of_mem _ (List.mem_cons_of_mem _ cs)) o e, hnn⟩,
      gs, hgs, fun u hal => go u fun b hb o e => hal b hb o (hk b (List.mem_cons_of_mem _ hb) o e)⟩
  item := fun j s Q E hj st hQ => by
    obtain ⟨hg, hl, gs, hgs, go⟩ := st
    obtain ⟨m, hm⟩ : ∃ m, n - j = m + 1 := ⟨n - j - 1, by omega⟩
    rw [hm] at go
    have aw : a ∉ wr := fun z => af (sub a z)
    refine wpAny_with_toks (Nat.le_refl s.toks) ?_
    refine wpAny_pyNext_genexpQ (P := fun n s t => n = 0 ∧ Went C wr s t) hh hl hroom hg hgs (go _ fun _ _ _ e => e) (fun v t gs' hb hv => ?_) (fun t hp h' hk => ?_)
    · obtain ⟨hF, wt, kap⟩ := hv
      have hidx : n - 1 - (m + 1 - 1) = j := by omega
      rw [hidx] at hF
      obtain ⟨one, here⟩ := GOne.of hgs wt.gens hb
      intro htk
      refine hQ v _ hF ⟨?_, ?_, gs', here, fun u hal => ?_⟩ ⟨fun b o q e => wt.heap b o (fun z => q (z ▸ List.mem_cons_self ..)) (fun z => q (List.mem_cons_of_mem _ z)) e, one, wt.drawn, wt.os, htk⟩
      · obtain ⟨o, nm, qn, ho, r⟩ := hg
        exact ⟨o, nm, qn, wt.heap a o aC aw ho, r⟩
      · obtain ⟨mc, hns, hnn⟩ := hl
        exact ⟨mc, hns.at' fun o e => wt.heap cStatics o csC csw e, hnn⟩
      · have e : n - (j + 1) = m := by omega
        rw [e]
        exact kap u hal
    · exact absurd hp.1 (Nat.succ_ne_zero m)
  done := fun s Q E st hQ => by
    obtain ⟨hg, hl, gs, hgs, go⟩ := st
    rw [Nat.sub_self] at go
    refine wpAny_with_toks (Nat.le_refl s.toks) ?_
    refine wpAny_pyNext_genexpQ (P := fun n s t => n = 0 ∧ Went C wr s t) hh hl hroom hg hgs (go _ fun _ _ _ e => e) (fun v t gs' hb hv => ?_) (fun t hp h' hk => ?_)
    · obtain ⟨_, _, kap⟩ := hv
      exact False.elim (kap t fun _ _ _ e => e)
    · obtain ⟨_, wt⟩ := hp
      obtain ⟨one, _⟩ := GOne.of (y := .finished) hgs wt.gens rfl
      intro htk
      exact hQ _ ⟨fun b o q e => hk b o (wt.heap b o (fun z => q (z ▸ List.mem_cons_self ..)) (fun z => q (List.mem_cons_of_mem _ z)) e), one, wt.drawn, wt.os, htk⟩
  self := fun _ _ _ _ st hQ => wpAny_pyIter_gen st.1 hQ
end
/-- behind the walk of a generator made anew: nothing that stood is changed -/
theorem GG.made {a b : Array GenState} {gs : GenState} (hb : gs.bare = true) (x : GOne a.size (a.push gs) b) : GG a b := by
  have hp : ∀ k, k < a.size → (a.push gs)[k]? = a[k]? := fun k h => by rw [Array.getElem?_push, if_neg (by omega)]
  rcases x with rfl | ⟨x1, x2, x3, x4⟩
  · refine ⟨by rw [Array.size_push]; omega, hp, fun k y h e => ?_⟩
    rw [Array.getElem?_push] at e
    split at e
    · injection e with e; rw [← e]; exact hb
    · rw [Array.getElem?_eq_none h] at e; cases e
  · rw [Array.size_push] at x1 x2 x4
    refine ⟨by omega, fun k h => (x2 k (by omega) (by omega)).trans (hp k h), fun k y h e => ?_⟩
    by_cases q : k = a.size
    · exact x3 y (q ▸ e)
    · exact x4 k y (by omega) e
section
variable {P : Program} {w : World} {A : Around} {E : Value → Shared → Prop} {s : Shared}
/-- the generator expression: made, and ready to be walked -/
theorem gen_made {env : Env} {elt iter : Expr} {x : Str} {px : Pos} {scope : Scope} {cl : List (Str × Addr)} {pos : Pos} {Q : Value → Shared → Prop} (hh : A.handled = none) (hco : scope.isCoroutine = false) (hcl : closureFor scope env = pure cl)
    (hcell : ∀ y ∈ scope.names, y.2 ≠ .cell) (h0 : scope.names.lookup (".0" : Str) = some NameKind.local) (hx : scope.names.lookup x = some .local) (hkind : scope.kind = .function) (hroom : A.depth < recursionLimit)
    (h : wpAny (model P w) A (eval iter env) (fun xv s₁ => wpAny (model P w) A (pyIter xv) (fun it s₂ => s₂.heap.NoLimit ∧
      wpAny (model P w) A (genexprCode env pos (env.qual ++ "<genexpr>") scope) (fun code s₃ => wpAny (model P w) A (builtinsFor env.globals env.builtins) (fun bi s₄ =>
        ∃ I fp wr n Pv St F, it = .ref I ∧ (∀ B : Around, B.handled = none → Walks P w B I fp wr n Pv St) ∧ St 0 s₄.heap ∧ (∀ b ∈ fp, b < s₄.heap.objs.size) ∧ s₄.heap.NoLimit ∧ cStatics ∉ wr ∧
          (∀ h0 : Heap, (∀ b o, s₄.heap.get? b = some o → h0.get? b = some o) → Elt P w (genEnv scope cl s₄.heap.objs.size code bi env) x elt (List.range s₄.heap.objs.size) wr Pv F h0 (A.depth + 1) (A.units + 8)) ∧
          (∀ a h₅ tk gs, gs.bare = true → s₄.heap.objs.size < a → (∀ b o, s₄.heap.get? b = some o → h₅.get? b = some o) →
            WalksS P w A.in4 a (a :: s₄.heap.objs.size :: List.range s₄.heap.objs.size) (s₄.heap.objs.size :: wr) (GOne s₄.gens.size) n F (AtGen P w A.in4 a s₄.gens.size s₄.heap.objs.size (List.range s₄.heap.objs.size) wr n F) →
            AtGen P w A.in4 a s₄.gens.size s₄.heap.objs.size (List.range s₄.heap.objs.size) wr n F 0 { s₄ with gens := s₄.gens.push gs, toks := tk, heap := h₅ } →
            h₅.objs.size = a + 1 → Q (.ref a) { s₄ with gens := s₄.gens.push gs, toks := tk, heap := h₅ })) E s₃) E s₂) E s₁) E s)
    (hs : ∀ u, genFold iter env u = pure u) : wpAny (model P w) A (eval (.GeneratorExp elt [⟨.Name x px, iter, [], 0⟩] scope pos) env) Q E s := by
  refine wpAny_GeneratorExp_make hco hcl hcell h0 hkind hroom (wpAny_mono h (fun xv s₁ h₁ => wpAny_mono h₁ (fun it s₂ h₂ => ⟨h₂.1, wpAny_mono h₂.2 (fun code s₃ h₃ => wpAny_mono h₃ (fun bi s₄ h₄ => ?_)
    fun _ _ e => e) fun _ _ e => e⟩) fun _ _ e => e) fun _ _ e => e) hs
  obtain ⟨I, fp, wr, n, Pv, St, F, rfl, W, st, hfp, hl, csw, hq, hQ⟩ := h₄
  have clt : cStatics < s₄.heap.objs.size := let ⟨_, hn, _⟩ := hl; hn.lt
  intro h' hn' hs'
  have hsz : h'.objs.size = s₄.heap.objs.size + 1 := by rw [hs'.1, Heap.size_push]
  have k1 : ∀ b o, s₄.heap.get? b = some o → h'.get? b = some o := fun b o e => hs'.extBut b o (Nat.ne_of_lt (Heap.lt_size e)) (Heap.get?_push_of_some _ e)
  have sub : ∀ b ∈ wr, b ∈ List.range s₄.heap.objs.size := fun b hb => List.mem_range.mpr (hfp b ((W A hh).sub b hb))
  have aC : h'.objs.size ≠ s₄.heap.objs.size := by rw [hsz]; exact Nat.succ_ne_self _
  have af : h'.objs.size ∉ List.range s₄.heap.objs.size := fun hm => by have := List.mem_range.mp hm; omega
  have k2 : ∀ b o, s₄.heap.get? b = some o → (h'.push { cls := .type "generator", data := .fields #[.int s₄.gens.size 0, .str "<genexpr>" (s₄.toks + 1), .str (env.qual ++ "<genexpr>") (s₄.toks + 1 + 1)] }).get? b = some o :=
    fun b o e => Heap.get?_push_of_some _ (k1 b o e)
  refine hQ _ _ _ _ rfl (by omega) k2 (gen_walks (A := A.in4) hh _ _ _ _ wr n F aC af sub hroom (List.mem_range.mpr clt) (Nat.ne_of_lt clt) csw) ⟨⟨_, _, _, Heap.get?_push_size _ rfl, rfl, rfl, rfl⟩, hl.keeps k2, _, Array.getElem?_push_size .., fun u hal => ?_⟩ (by rw [Heap.size_push])
  refine ⟨rfl, gen_start (A := A.in4.in1) (cenv := genEnv scope cl s₄.heap.objs.size code bi env) (m := fun y => if y = ".0" then some (.ref I) else none) (h0 := s₄.heap) hh
    (fun B hB => (W B hB).mono_fp fun b hb => List.mem_range.mpr (hfp b hb)) hx (by simp [genEnv, hkind]) hco (fun hm => Nat.lt_irrefl _ (List.mem_range.mp hm)) (hq _ fun _ _ e => e) u
    ((W A hh).frame _ _ _ st fun b hb o e => hal b (List.mem_cons_of_mem _ (List.mem_range.mpr (hfp b hb))) o (k2 b o e)) ((hn'.push _).at' fun o e => hal _ (List.mem_cons_self ..) o e) fun b hb _ o e => hal b (List.mem_cons_of_mem _ hb) o (k2 b o e)⟩
end
end N0

/-! B30: the nodes of a tree, counted. -/
namespace N0
open PySem PySem.Spec PyProof.Rows L2
/-- a node at a, of height at most k, with n nodes in all -/
def NdR (P : Program) (w : World) (CN : Addr) (h : Heap) : Nat → Addr → Nat → Prop
  | 0, _, _ => False
  | k + 1, a, n => ∃ (dx : Addr) (mA : Str → Option Value) (D : Addr) (vs : List (Key × Value)) (ep : Nat) (ns : List Nat), ObjM h a dx CN mA ∧ mA "below" = some (.ref D) ∧ (D == sysModules) = false ∧ h.DictAt (mixKind P w) D vs ep ∧
    ns.length = vs.length ∧ n = 1 + ns.sum ∧ ∀ (i : Nat) key v, vs[i]? = some (key, v) → ∃ c m, v = .ref c ∧ ns[i]? = some m ∧ NdR P w CN h k c m
theorem objM_at {h h' : Heap} {x dx C : Addr} {mA : Str → Option Value} (o : ObjM h x dx C mA) (k1 : ∀ u, h.get? x = some u → h'.get? x = some u) (k2 : ∀ u, h.get? dx = some u → h'.get? dx = some u) : ObjM h' x dx C mA :=
  ⟨k1 _ o.obj, o.ns.at k2, o.ne⟩
/-- kept, where all but a code object's table is -/
theorem NdR.off {P : Program} {w : World} {CN T : Addr} {h h' : Heap} {ps : Array Value} (eT : h.get? T = some { cls := .none, data := .fields ps }) (k : ∀ b o, b ≠ T → h.get? b = some o → h'.get? b = some o) : ∀ {m : Nat} {a : Addr} {n : Nat}, NdR P w CN h m a n → NdR P w CN h' m a n
  | 0, _, _, x => x.elim
  | m + 1, a, n, ⟨dx, mA, D, vs, ep, ns, o, e1, e2, d, l, e3, ch⟩ => by
    have ne1 : a ≠ T := fun z => by have := o.obj; rw [z, eT] at this; injection this with this; injection this with this; cases this
    have ne2 : dx ≠ T := fun z => by
      obtain ⟨ob, es, ep, ho, hd, _⟩ := id o.ns
      rw [z, eT] at ho; injection ho with ho; rw [← ho] at hd; cases hd
    have ne3 : D ≠ T := fun z => by
      obtain ⟨ob, es, ho, hc, hd, _⟩ := id d
      rw [z, eT] at ho; injection ho with ho; rw [← ho] at hd; cases hd
    refine ⟨dx, mA, D, vs, ep, ns, objM_at o (fun u => k _ u ne1) (fun u => k _ u ne2), e1, e2, d.at' (fun u => k _ u ne3), l, e3, fun i key v hi => ?_⟩
    obtain ⟨c, q, h1, h2, h3⟩ := ch i key v hi
    exact ⟨c, q, h1, h2, NdR.off eT k h3⟩
def TabAtH (h : Heap) (T : Addr) (ps : Array Value) : Prop := h.get? T = some { cls := .none, data := .fields ps } ∧ TriplesOk ps.toList
/-- nothing that stood is changed but the table, where it lacked the expression at pos; now it has it -/
structure TGrew (T : Addr) (pos : Pos) (s t : Shared) : Prop where
  heap : ∀ b o, b ≠ T → s.heap.get? b = some o → t.heap.get? b = some o
  tab : ∃ qs cv, TabAtH t.heap T qs ∧ codeAmong pos qs.toList = some cv
  same : ∀ ps cv, s.heap.get? T = some { cls := .none, data := .fields ps } → codeAmong pos ps.toList = some cv → t.heap.get? T = s.heap.get? T
  gens : GG s.gens t.gens
  drawn : t.drawn = s.drawn
  os : t.os = s.os
theorem preSum_sum {val : Nat → Int} {ns : List Nat} (h : ∀ i m, ns[i]? = some m → val i = (m : Nat)) : ∀ j, j ≤ ns.length → preSum val j = (((ns.take j).sum : Nat) : Int)
  | 0, _ => rfl
  | j + 1, hj => by
    have e : ns[j]? = some ns[j] := List.getElem?_eq_getElem (by omega)
    rw [preSum, preSum_sum h j (by omega), h j _ e, List.take_add_one, e, List.sum_append]
    simp
theorem take_sum_le (ns : List Nat) (j : Nat) : (ns.take j).sum ≤ ns.sum := by
  have e : ns.sum = (ns.take j).sum + (ns.drop j).sum := by rw [← List.sum_append, List.take_append_drop]
  omega
theorem mem_sum_le {ns : List Nat} {i m : Nat} (h : ns[i]? = some m) : m ≤ ns.sum := by
  have h1 := take_sum_le ns (i + 1)
  rw [List.take_add_one, h, List.sum_append] at h1
  simp at h1; omega
/-- the expression's code object: found in the table, or made and put there -/
theorem code_has {M : Model} {A : Around} {E : Value → Shared → Prop} {env : Env} {c T : Addr} {ps : Array Value} {pos : Pos} {q : Str} {sc : Scope} {s : Shared} {G : Value → Shared → Prop} (hc : env.code = .ref c) (cd : PySem.W.CodeHd s.heap c T) (eT : TabAtH s.heap T ps)
    (h : ∀ (code : Value) (h3 : Heap) (tk : Nat) (qs : Array Value) (cv : Value), Heap.ExtBut T s.heap h3 → s.heap.objs.size ≤ h3.objs.size → TabAtH h3 T qs → codeAmong pos qs.toList = some cv → (∀ cv0, codeAmong pos ps.toList = some cv0 → h3 = s.heap) → G code { s with heap := h3, toks := tk }) :
    wpAny M A (genexprCode env pos q sc) G E s := by
  cases hf : codeAmong pos ps.toList with
  | some cv => exact wpAny_genexprCode_hit hc (cd.code eT.1 eT.2) hf (h cv s.heap s.toks ps cv (Heap.ExtBut.refl _ _) (Nat.le_refl _) eT hf fun _ _ => rfl)
  | none =>
    refine wpAny_genexprCodeX hc (cd.code eT.1 eT.2) (cd.tab eT.1) hf fun c' h' tk hx hge hlt co _ tab _ => ?_
    have tr : TriplesOk (ps ++ #[rawInt pos.line, rawInt pos.col, Value.ref c']).toList := by
      obtain ⟨_, _, _, _, _, _, _, _, _, _, _, _, _, _, _, _, _, _, _, r, _⟩ := co
      exact r
    refine h _ h' tk _ (.ref c') hx (Nat.le_trans hge (Nat.le_of_lt hlt)) ⟨tab.2, tr⟩ ?_ fun cv0 e => by rw [hf] at e; cases e
    have := codeAmong_snoc (pos := pos) (c := .ref c') ps.toList eT.2 hf
    simpa using this
section
variable {P : Program} {w : World} {A : Around} {E : Value → Shared → Prop} {K : PySem.W.Frag} {mg : Str → Option Value} {base : Heap} {env : Env} {s : Shared} {c T f CN : Addr} {scope : Scope} {x : Str}
/-- sum(_count(x) for x in e.values()), where _count does its work below -/
theorem cnt_sum {e : Expr} {p0 p1 p2 p3 px apos cpos gpos spos : Pos} {k : Nat} {Q : Value → Shared → Prop} (hh : A.handled = none) (hroom : A.depth + 1 < recursionLimit) (M : Mod K mg base) (TB : GxR.TabB base mg c T) (hcode : env.code = .ref c) (gs : GxR.GenS env scope x)
    (hl : scope.names.lookup ("_count" : Str) = some .globalImplicit) (hf : mg "_count" = some (.ref f)) (hkf : PySem.W.keepIn K (.ref f) = true)
    (eg : env.globals = mainGlobals) (ld : ∀ Q : Value → Shared → Prop, Q (.builtin "sum") s → wpAny (model P w) A (eval (.Name "sum" p0) env) Q E s)
    (hxd : (x == ("__debug__" : Str)) = false) (hbase : attributeBase e "values" env (eval e env) = eval e env) (hline : (apos.endLine == cpos.line) = true) (hfold : ∀ u, genFold (.Call (.Attribute e "values" apos) [] [] cpos) env u = pure u)
    (h : wpAny (model P w) A (eval e env) (fun u s1 => ∃ (D : Addr) (vs : List (Key × Value)) (ep : Nat) (ns : List Nat), u = .ref D ∧ Bk base s1 ∧ (D == sysModules) = false ∧ s1.heap.DictAt (mixKind P w) D vs ep ∧
      ns.length = vs.length ∧ ns.sum ≤ 100000 ∧ (∀ (i : Nat) key v, vs[i]? = some (key, v) → ∃ c m, v = .ref c ∧ ns[i]? = some m ∧ NdR P w CN s1.heap k c m) ∧ (∃ ps, TabAtH s1.heap T ps) ∧ (∀ b ob, base.get? b = some ob → b ≠ T) ∧
      (∀ (B : Around) E (t : Shared) a n, B.handled = none → B.depth ≤ A.depth + 1 → Bk base t → (∃ ps cv, TabAtH t.heap T ps ∧ codeAmong gpos ps.toList = some cv) → NdR P w CN t.heap k a n → n ≤ 100000 → wpAny (model P w) B (call (.ref f) [.ref a]) (fun y u => (∃ tk, y = .int (n : Nat) tk) ∧ Grew t u) E t) ∧
      ∀ t tk, TGrew T gpos s1 t → Q (.int (ns.sum : Nat) tk) t) E s) :
    wpAny (model P w) A (eval (.Call (.Name "sum" p0) [.GeneratorExp (.Call (.Name "_count" p1) [.Name x p2] [] p3) [⟨.Name x px, .Call (.Attribute e "values" apos) [] [] cpos, [], 0⟩] scope gpos] [] spos) env) Q E s := by
  refine wpAny_Call_Name_kw (ld _ (PyProof.Rows.callWith_builtin1 (Calls.spliced_cons ?_) rfl rfl))
  refine gen_made hh gs.co (closure_ok gs.free) gs.cell gs.dot gs.loc gs.kind (by omega) ?_ hfold
  refine wpAny_Call_method (T := "dict") (id := "dict.values") hbase rfl hline F.plainAttrs_dict F.slot_dict_values F.type_dict_values (wpAny_mono h (fun u s1 hu => ?_) fun _ _ e => e)
  obtain ⟨D, vs, ep, ns, rfl, hb1, hsm, hd, hlen, hle, ch, ⟨ps, eT, okT⟩, baseT, below, hQ⟩ := hu
  refine ⟨hd.dictOf.typeIs, hd.dictOf.mapOf.noDict, ?_⟩
  show wpAny _ _ (callWith cpos (.builtin "dict.values") [.ref D] [] []) _ E s1
  refine method_meetsIn F.slot_dict_values F.entry_dict_values rfl (PySem.evalArgs_none ⟨rfl, hd.dictOf.typeIs, F.args_dict_values_1 _, _, meets_dict_values (mixKind P w) D hsm, ⟨vs, hd.dictOf⟩, ?_⟩)
  refine wpAny_pyIter_values (d := D) (knd := mixKind P w) ⟨_, Heap.get?_push_size _ rfl, rfl, rfl⟩ (hd.push _) ?_
  have k2 : ∀ b o, s1.heap.get? b = some o → ((s1.heap.push { cls := .type "dict_values", data := .fields #[.ref D] }).push { cls := .type "dict_valueiterator", data := .fields #[.ref D, .int 0 0, .int vs.length 0, .int ep 0] }).get? b = some o := fun b o e => Heap.get?_push_of_some _ (Heap.get?_push_of_some _ e)
  have z2 : ((s1.heap.push { cls := .type "dict_values", data := .fields #[.ref D] }).push { cls := .type "dict_valueiterator", data := .fields #[.ref D, .int 0 0, .int vs.length 0, .int ep 0] }).objs.size = s1.heap.objs.size + 2 := by rw [Heap.size_push, Heap.size_push]
  have it2 : ((s1.heap.push { cls := .type "dict_values", data := .fields #[.ref D] }).push { cls := .type "dict_valueiterator", data := .fields #[.ref D, .int 0 0, .int vs.length 0, .int ep 0] }).IsValIter (s1.heap.objs.size + 1) D 0 vs.length ep := ⟨_, by have := Heap.get?_push_size (s1.heap.push { cls := .type "dict_values", data := .fields #[.ref D] }) (o := { cls := .type "dict_valueiterator", data := .fields #[.ref D, .int 0 0, .int vs.length 0, .int ep 0] }) rfl; rwa [Heap.size_push] at this, rfl, rfl⟩
  have nl := (M.nolimit.keeps hb1).keeps k2
  rw [show (s1.heap.push { cls := .type "dict_values", data := .fields #[.ref D] }).objs.size = s1.heap.objs.size + 1 from Heap.size_push _ _]
  generalize (s1.heap.push { cls := .type "dict_values", data := .fields #[.ref D] }).push { cls := .type "dict_valueiterator", data := .fields #[.ref D, .int 0 0, .int vs.length 0, .int ep 0] } = h2 at k2 z2 it2 nl ⊢
  have hb2 : ∀ b o, base.get? b = some o → h2.get? b = some o := fun b o e => k2 b o (hb1 b o e)
  refine ⟨nl, code_has hcode (TB.code.keeps hb2) ⟨k2 _ _ eT, okT⟩ fun code h3 tk qs cv hx hsz tq hcv same => ?_⟩
  have hsz : s1.heap.objs.size + 2 ≤ h3.objs.size := by rw [← z2]; exact hsz
  have up : ∀ b ob, b ≠ T → s1.heap.get? b = some ob → h3.get? b = some ob := fun b ob y e => hx b ob y (k2 b ob e)
  have ltT : @LT.lt Nat instLTNat T s1.heap.objs.size := Heap.lt_size eT
  obtain ⟨bm, ob, n1, n2, n3, n4, n5, n6, n7, n8⟩ := id TB.bm
  refine wpAny_builtinsFor (by rw [eg]; exact (M.glob.keeps hb2).extBut hx TB.gP) n1 n2 (up _ _ n4 (hb1 _ _ n5)) n6 n7 n8 ?_
  have stat : cStatics < s1.heap.objs.size ∧ cStatics ≠ T := by
    obtain ⟨_, hns, _⟩ := M.nolimit.keeps hb1
    obtain ⟨oc, es, ep, ho, hd, _⟩ := id hns
    exact ⟨hns.lt, fun e => by rw [e, eT] at ho; injection ho with ho; rw [← ho] at hd; cases hd⟩
  have hDT : D ≠ T := fun z => by
    obtain ⟨ob, es, ho, hc, hd, _⟩ := id hd
    rw [z, eT] at ho; injection ho with ho; rw [← ho] at hd; cases hd
  have hDl : @LT.lt Nat instLTNat D s1.heap.objs.size := by
    obtain ⟨ob, es, ho, _⟩ := id hd
    exact Heap.lt_size ho
  have hIT : s1.heap.objs.size + 1 ≠ T := Nat.ne_of_gt (Nat.lt_succ_of_lt ltT)
  have hDI : D ≠ s1.heap.objs.size + 1 := Nat.ne_of_lt (Nat.lt_succ_of_lt hDl)
  have it3 : h3.IsValIter (s1.heap.objs.size + 1) D 0 vs.length ep := it2.at fun o e => hx _ o hIT e
  have hd3 : h3.DictAt (mixKind P w) D vs ep := hd.at' fun o e => up D o hDT e
  refine ⟨s1.heap.objs.size + 1, [s1.heap.objs.size + 1, D], [s1.heap.objs.size + 1], vs.length, _, _, fun i y => ∃ m tk, ns[i]? = some m ∧ y = .int (m : Nat) tk, rfl, fun B hB => Walks.dictValues (knd := mixKind P w) hB (s1.heap.objs.size + 1) D hDI vs ep, ⟨it3, hd3⟩, fun b hb => ?_, nl.extBut hx stat.2, fun y => ?_, fun h0 k0 => ?_, fun a h5 tk5 gst bare lt5 k5 Wg at5 sz5 => ?_⟩
  · rcases List.mem_cons.mp hb with rfl | hb
    · show s1.heap.objs.size + 1 < h3.objs.size; omega
    · rw [List.mem_singleton.mp hb]; show @LT.lt Nat instLTNat D h3.objs.size; omega
  · rw [List.mem_singleton] at y; exact absurd (y ▸ stat.1) (Nat.not_lt_of_le (Nat.le_succ _))
  · intro B E' i v s2 m2 hB hD hU hv hn hm hk
    obtain ⟨key, hv⟩ := hv
    obtain ⟨a, m, rfl, hm', nd⟩ := ch i key v hv
    have keep : ∀ b o, @LT.lt Nat instLTNat b s1.heap.objs.size → h3.get? b = some o → s2.heap.get? b = some o := fun b o hb e => by
      have hl : @LT.lt Nat instLTNat b h3.objs.size := by omega
      exact hk b (List.mem_range.mpr hl) (fun z => Nat.ne_of_lt (Nat.lt_succ_of_lt hb) (List.mem_singleton.mp z)) o (k0 b o e)
    have hb2' : Bk base s2 := fun b o e => keep b o (Heap.lt_size (hb1 b o e)) (up b o (baseT b o e) (hb1 b o e))
    have tq2 : TabAtH s2.heap T qs := ⟨keep T _ ltT tq.1, tq.2⟩
    have nd2 : NdR P w CN s2.heap k a m := NdR.off eT (fun b o hb e => keep b o (Heap.lt_size e) (up b o hb e)) nd
    refine wpAny_Call_Name_kw (raw_glob M gs.kind eg hl hb2' hf ?_)
    refine PySem.W.callWith_K (h₀ := base) M.kin hkf (Calls.spliced_cons (wpAny_Name (wpAny_loadName_local gs.kind gs.loc hn hm ?_) hxd))
    refine Calls.spliced_nil ⟨M.kin.keeps hb2', ?_⟩
    refine wpAny_mono (below B E' s2 a m hB hD hb2' ⟨qs, cv, tq2, hcv⟩ nd2 (Nat.le_trans (mem_sum_le hm') hle)) (fun y u r => ?_) fun _ _ e => e
    obtain ⟨⟨tk, rfl⟩, g⟩ := r
    exact ⟨⟨m, tk, hm', rfl⟩, g⟩
  · refine Calls.spliced_nil ?_
    have Wg := Wg.in4_1
    refine call_sum_walkS (Wg.self 0 _ _ _ at5 ⟨a, _, _, _, _, _, _, fun i => ((ns.getD i 0 : Nat) : Int), rfl, Wg, at5, fun b hb => ?_, fun i v hv => ?_, fun j hj => ?_, fun s' t' mv => ?_⟩)
    · have l5 : @LT.lt Nat instLTNat h3.objs.size a := lt5
      have s5 : h5.objs.size = Nat.succ a := sz5
      show @LT.lt Nat instLTNat b h5.objs.size
      rw [s5]
      rcases List.mem_cons.mp hb with rfl | hb
      · exact Nat.lt_succ_self _
      · rcases List.mem_cons.mp hb with rfl | hb
        · exact Nat.lt_succ_of_lt l5
        · exact Nat.lt_succ_of_lt (Nat.lt_trans (List.mem_range.mp hb) l5)
    · obtain ⟨m, tk, hm, rfl⟩ := hv
      exact ⟨tk, by show Value.int _ _ = Value.int ((ns.getD i 0 : Nat) : Int) tk; rw [List.getD_eq_getElem?_getD, hm]; rfl⟩
    · have vok : ∀ i m, ns[i]? = some m → ((ns.getD i 0 : Nat) : Int) = (m : Nat) := fun i m hm => by rw [List.getD_eq_getElem?_getD, hm]; rfl
      rw [preSum_sum (ns := ns) vok (j + 1) (by omega)]
      have h1 := take_sum_le ns (j + 1)
      have e : ns[j]? = some ns[j] := List.getElem?_eq_getElem (by omega)
      have h2 := mem_sum_le e
      show InLong ((ns.getD j 0 : Nat) : Int) ∧ _
      rw [vok j _ e]
      unfold InLong
      omega
    · have vok : ∀ i m, ns[i]? = some m → ((ns.getD i 0 : Nat) : Int) = (m : Nat) := fun i m hm => by rw [List.getD_eq_getElem?_getD, hm]; rfl
      rw [preSum_sum (ns := ns) vok vs.length (by omega), List.take_of_length_le (by omega)]
      have old : ∀ b o, @LT.lt Nat instLTNat b s1.heap.objs.size → h3.get? b = some o → s'.heap.get? b = some o := fun b o hb e => by
        refine mv.heap b o (fun z => ?_) (k5 b o e)
        rcases List.mem_cons.mp z with z | z
        · exact Nat.ne_of_lt (show @LT.lt Nat instLTNat b h3.objs.size by omega) z
        · exact Nat.ne_of_lt (Nat.lt_succ_of_lt hb) (List.mem_singleton.mp z)
      refine hQ s' t' ⟨fun b o hb e => old b o (Heap.lt_size e) (up b o hb e), ⟨qs, cv, ⟨old T _ ltT tq.1, tq.2⟩, hcv⟩, fun ps' cv' e1 e2 => ?_, GG.made bare mv.gens, mv.drawn, mv.os⟩
      rw [eT] at e1
      injection e1 with e1
      injection e1 with _ _ e1 _
      injection e1 with e1
      subst e1
      have h3e := same cv' e2
      rw [eT]
      exact old T _ ltT (by rw [h3e]; exact k2 _ _ eT)
end
end N0

/-! B31: _count, by its own text and by its calls. -/
namespace N0
open PySem PySem.Spec PyProof.Rows L2
/-- the same of the heap that is held -/
def NdA (CN : Addr) (H : Hp) : Nat → Addr → Nat → Prop
  | 0, _, _ => False
  | k + 1, a, n => ∃ (dx : Addr) (fs : List (Str × V)) (D : Addr) (kvs : List (Key × V)) (ns : List Nat), H a = some (.ins CN dx fs) ∧ fs.lookup ("below" : Str) = some (.ref D) ∧ H D = some (.dK kvs) ∧
    ns.length = kvs.length ∧ n = 1 + ns.sum ∧ ∀ (i : Nat) key v, kvs[i]? = some (key, v) → ∃ c m, v = .ref c ∧ ns[i]? = some m ∧ NdA CN H k c m
theorem kv_at {kvs : List (Key × V)} {vs : List (Key × Value)} (kv : KV kvs vs) {i : Nat} {key : Key} {u : Value} (h : vs[i]? = some (key, u)) : ∃ v, kvs[i]? = some (key, v) ∧ RelV v u := by
  have hl : kvs.length = vs.length := Paired.length kv
  have hi : i < kvs.length := by rw [hl]; exact (List.getElem?_eq_some_iff.mp h).1
  have e : kvs[i]? = some (kvs[i].1, kvs[i].2) := List.getElem?_eq_getElem hi
  obtain ⟨u', hu, r⟩ := kv_get kv e
  rw [h] at hu
  injection hu with hu
  injection hu with h1 h2
  exact ⟨kvs[i].2, by rw [e, h1], h2 ▸ r⟩
theorem NdA.raw {P : Program} {w : World} {CN : Addr} {H : Hp} {h : Heap} (hok : HOk P w H h) : ∀ {k : Nat} {a : Addr} {n : Nat}, NdA CN H k a n → NdR P w CN h k a n
  | 0, _, _, x => x.elim
  | k + 1, a, n, ⟨dx, fs, D, kvs, ns, e1, e2, e3, l, en, ch⟩ => by
    obtain ⟨mA, o, r, _, _, _⟩ := ins_get hok e1
    obtain ⟨u, hu, ru⟩ := RelO.some_of (v := .ref D) (o := mA "below") (by rw [← e2]; exact r "below")
    obtain rfl : u = Value.ref D := ru
    obtain ⟨_, hs, vs, kv, od, es, ep, hd⟩ := (show ObjOk P w H h D (.dK kvs) from hok D _ e3)
    have hl : kvs.length = vs.length := Paired.length kv
    refine ⟨dx, mA, D, vs, ep, ns, o, hu, hs, ⟨od, es, hd⟩, by omega, en, fun i key u hi => ?_⟩
    obtain ⟨v, hv, rv⟩ := kv_at kv hi
    obtain ⟨c, m, rfl, hm, nd⟩ := ch i key v hv
    exact ⟨c, m, rv, hm, nd.raw hok⟩
theorem NdA.up {CN : Addr} {H : Hp} : ∀ {k j : Nat} {a : Addr} {n : Nat}, NdA CN H k a n → k ≤ j → NdA CN H j a n
  | 0, _, _, _, x, _ => x.elim
  | k + 1, 0, _, _, _, h => by omega
  | k + 1, j + 1, a, n, ⟨dx, fs, D, kvs, ns, e1, e2, e3, l, en, ch⟩, h => ⟨dx, fs, D, kvs, ns, e1, e2, e3, l, en, fun i key v hi => by
    obtain ⟨c, m, h1, h2, h3⟩ := ch i key v hi
    exact ⟨c, m, h1, h2, h3.up (by omega)⟩⟩
/-- the call of _count, raw -/
def CntRaw (P : Program) (w : World) (K : PySem.W.Frag) (mg : Str → Option Value) (base : Heap) (T CN : Addr) (gpos : Pos) : Prop :=
  ∃ f, mg "_count" = some (.ref f) ∧ PySem.W.keepIn K (.ref f) = true ∧ ((∀ b ob, base.get? b = some ob → b ≠ T) → ∀ (k : Nat) (A : Around) E (t : Shared) a n, A.handled = none → A.depth + 2 * k + 5 < recursionLimit → Bk base t → (∃ ps cv, TabAtH t.heap T ps ∧ codeAmong gpos ps.toList = some cv) →
    NdR P w CN t.heap k a n → n ≤ 100000 → wpAny (model P w) A (call (.ref f) [.ref a]) (fun y u => (∃ tk, y = .int (n : Nat) tk) ∧ Grew t u) E t)
theorem TGrew.grew {T : Addr} {pos : Pos} {s t : Shared} (g : TGrew T pos s t) (h : ∃ ps cv, TabAtH s.heap T ps ∧ codeAmong pos ps.toList = some cv) : Grew s t := by
  obtain ⟨ps, cv, e, hc⟩ := h
  refine ⟨fun b o hb => ?_, g.gens, g.drawn, g.os⟩
  by_cases z : b = T
  · rw [z] at hb ⊢; rw [g.same ps cv e.1 hc]; exact hb
  · exact g.heap b o z hb
section
variable {P : Program} {w : World} {K : PySem.W.Frag} {mg : Str → Option Value} {base : Heap} {st : Stmt} {c T CN : Addr} {scope : Scope}
theorem cnt_raw {p0 p1 p2 p3 px p4 p5 apos cpos gpos spos bpos rpos qpos : Pos} {j : Nat} (M : Mod K mg base) (D : At K mg "_count" st) (hcA : CodeAt K mg "_count" c) (TB : GxR.TabB base mg c T) (hn : NodeC K CN)
    (s1 : (defScope st).kind = .function) (s2 : (defScope st).isCoroutine = false) (s3 : (defScope st).isGenerator = false) (s4 : ∀ x ∈ (defScope st).names, x.2 ≠ .cell) (s5 : (defScope st).names.lookup ("node" : Str) = some .local)
    (s6 : (defScope st).names.lookup ("sum" : Str) = some .globalImplicit) (g1 : scope.kind = .function) (g2 : scope.isCoroutine = false) (g3 : ∀ y ∈ scope.names, y.2 ≠ .cell) (g4 : scope.names.lookup (".0" : Str) = some NameKind.local)
    (g5 : scope.names.lookup ("child" : Str) = some .local) (g6 : ∀ y ∈ scope.names, y.2 ≠ .free) (g7 : scope.names.lookup ("_count" : Str) = some .globalImplicit) (hsum : mg "sum" = none) (hb : BindN "_count" st ["node"])
    (hbd : defBody st = [.Return (some (.BinOp (.Constant (.int 1) j p4) .Add (.Call (.Name "sum" p0) [.GeneratorExp (.Call (.Name "_count" p1) [.Name "child" p2] [] p3)
      [⟨.Name "child" px, .Call (.Attribute (.Attribute (.Name "node" p5) "below" bpos) "values" apos) [] [] cpos, [], 0⟩] scope gpos] [] spos) rpos)) qpos]) (hline : (apos.endLine == cpos.line) = true) :
    CntRaw P w K mg base T CN gpos := by
  obtain ⟨f, fd, hm, F⟩ := D.ex
  refine ⟨f, hm, F.kp, fun baseT k => ?_⟩
  obtain ⟨oc, od, dV, kV, doc, pm, an, cdv, ct, osl, rfl, lk, hcd, hD, _⟩ := F.ex
  have hdV : dV = .none := by
    rcases hD with ⟨_, e⟩ | ⟨e, _⟩
    · exact e
    · exact absurd rfl e
  subst hdV
  have e : cdv = .ref c := hcA f oc od _ osl hm lk
  subst e
  induction k with
  | zero => intro A E t a n _ _ _ _ nd; exact nd.elim
  | succ k ih =>
    intro A E t a n hh hdep hbk hT nd hn9
    have KX : K.In t.heap := M.kin.keeps hbk
    have hbi := hb kV doc pm an (.ref c) ct [.ref a] rfl
    refine wpAny_call (codeAny_call_straight (by omega) (KX _ _ lk) rfl (M.nolimit.keeps hbk) (PySem.W.codeRec_of KX hcd) rfl hbi s4 ?_ (fun t1 x => ?_) s2 s3 s1)
    · intro y hy
      rcases List.mem_cons.mp hy with rfl | hy
      · exact s5
      · cases hy
    · rw [hbd]
      obtain ⟨⟨h1, tk1, rfl⟩, hns, keep, _⟩ := id x
      have hb1 : Bk base { t with heap := h1, toks := tk1 } := fun b o e => keep b o (hbk b o e)
      obtain ⟨ps, cv, eT, hcv⟩ := hT
      have hT1 : ∃ ps cv, TabAtH h1 T ps ∧ codeAmong gpos ps.toList = some cv := ⟨ps, cv, ⟨keep _ _ eT.1, eT.2⟩, hcv⟩
      have nd1 : NdR P w CN h1 (k + 1) a n := NdR.off eT.1 (fun b o _ e => keep b o e) nd
      obtain ⟨dx, mA, D', vs, ep, ns, o, e1, e2, d, l, en, ch⟩ := nd1
      refine wpAny_execs_cons (wpAny_Return_some (wpAny_BinOp (wpAny_Constant_int ?_)))
      refine cnt_sum (mg := mg) (base := base) (K := K) (T := T) (CN := CN) (k := k) hh (by show A.depth + 1 + 1 < _; omega) M TB rfl (gens_of g1 g2 g3 g4 g5 g6) g7 hm F.kp rfl (fun Q q => raw_blt M s1 rfl rfl s6 hb1 hsum (by decide +kernel) q) (by decide) rfl hline (fun _ => rfl) ?_
      · refine attr_of rfl (ldc s1 s5 (m := _) hns rfl ?_)
        refine get_map (K := K) (M.kin.keeps hb1) o (hn.cl.get "below") hn.cl.hd hn.nb e1 rfl ?_
        refine ⟨D', vs, ep, ns, rfl, hb1, e2, d, l, by omega, ch, ⟨ps, ⟨keep _ _ eT.1, eT.2⟩⟩, baseT, fun B E' t2 a2 n2 hB hD hb2 hT2 nd2 hn2 => ih B E' t2 a2 n2 hB (by have : B.depth ≤ A.depth + 1 + 1 := hD; omega) hb2 hT2 nd2 hn2, fun t2 tk g => ?_⟩
        refine PySem.P.add_int ?_
        refine ⟨⟨_, by rw [en]; show Value.int (1 + ((ns.sum : Nat) : Int)) _ = _; rw [show (1 + ((ns.sum : Nat) : Int)) = ((1 + ns.sum : Nat) : Int) by omega]⟩, ?_⟩
        have gg := g.grew ⟨ps, cv, ⟨keep _ _ eT.1, eT.2⟩, hcv⟩
        exact ⟨fun b o e => gg.heap b o (keep b o e), gg.gens, gg.drawn, gg.os⟩
end
section
variable {X : Cx} {c T CN : Addr} {scope : Scope} {e : Expr} {te : TE} {x : Str}
/-- sum(_count(x) for x in e.values()), the hands' rule; the table at T is held -/
def tCnt (T CN : Addr) (te : TE) : TE := fun σ H Q => te σ H fun v H1 => ∃ (D : Addr) (kvs : List (Key × V)) (ns : List Nat) (k : Nat), v = .ref D ∧ H1 D = some (.dK kvs) ∧ ns.length = kvs.length ∧ ns.sum ≤ 100000 ∧ k ≤ 25 ∧
  (∀ (i : Nat) key u, kvs[i]? = some (key, u) → ∃ c m, u = .ref c ∧ ns[i]? = some m ∧ NdA CN H1 k c m) ∧ Tb H1 T ∧ Q (.int (ns.sum : Nat)) H1
theorem pe_cnt {p0 p1 p2 p3 px apos cpos gpos spos : Pos} (hr : Room 20 X.A) (TB : GxR.TabB X.base X.mg c T) (hcode : X.env.code = .ref c) (gs : GxR.GenS X.env scope x) (hl : scope.names.lookup ("_count" : Str) = some .globalImplicit) (R : Mod X.K X.mg X.base → CntRaw X.prog X.w X.K X.mg X.base T CN gpos)
    (hg : Gl X "sum") (hm : X.mg "sum" = none) (he : PE X e te) (hbase : attributeBase e "values" X.env (eval e X.env) = eval e X.env) (hxd : (x == ("__debug__" : Str)) = false := by decide) (hline : (apos.endLine == cpos.line) = true := by rfl)
    (hfold : ∀ u, genFold (.Call (.Attribute e "values" apos) [] [] cpos) X.env u = pure u := by intro _; rfl) :
    PE X (.Call (.Name "sum" p0) [.GeneratorExp (.Call (.Name "_count" p1) [.Name x p2] [] p3) [⟨.Name x px, .Call (.Attribute e "values" apos) [] [] cpos, [], 0⟩] scope gpos] [] spos) (tCnt T CN te) := by
  refine ⟨fun pins s σ H Q I h => ?_⟩
  obtain ⟨f, hmf, hkf, raw⟩ := R I.mod
  have hd := hr.dp
  refine cnt_sum (mg := X.mg) (base := X.base) (K := X.K) (T := T) (CN := CN) (k := 25) hr.hd (by omega) I.mod TB hcode gs hl hmf hkf I.ok.glob (fun Q q => ld_blt I hg hm (u := .builtin "sum") (by decide +kernel) q) hxd hbase hline hfold ?_
  refine thn (he.run _ s σ H _ I h) fun u s1 ⟨v, H1, J1, ru, D, kvs, ns, k, ev, eD, hlen, hle, hk, ch, hT, q⟩ => ?_
  subst ev
  obtain rfl : u = Value.ref D := ru
  obtain ⟨_, hsm, vs, kv, od, es, ep, hdd⟩ := (show ObjOk X.prog X.w H1 s1.heap D (.dK kvs) from J1.hok D _ eD)
  have hl2 : kvs.length = vs.length := Paired.length kv
  obtain ⟨ps, eT, okT⟩ := hT.at J1.hok
  have baseT : ∀ b ob, X.base.get? b = some ob → b ≠ T := fun b ob e y => by
    have n := (J1.bs b ob e).2
    rw [y, hT] at n; cases n
  refine ⟨D, vs, ep, ns, rfl, J1.bk, hsm, ⟨od, es, hdd⟩, by omega, hle, fun i key u hi => ?_, ⟨ps, eT, okT⟩, baseT, fun B E t a n hB hD hb hT nd hn => raw baseT 25 B E t a n hB (by omega) hb hT nd hn, fun t tk g => ?_⟩
  · obtain ⟨v, hv, rv⟩ := kv_at kv hi
    obtain ⟨c, m, rfl, hm, nd⟩ := ch i key v hv
    exact ⟨c, m, rv, hm, (nd.up hk).raw J1.hok⟩
  · obtain ⟨qs, cv, ⟨eq, okq⟩, _⟩ := g.tab
    have J := inv_tb (h' := t.heap) (g' := t.gens) (d' := t.drawn) (t' := t.toks) J1 hT g.heap eq okq (g.gens.bare J1.bare)
    exact ⟨.int (ns.sum : Nat), H1, GxR.sh_eta s1 t g.os ▸ J, ⟨tk, rfl⟩, q⟩
end

/-! ### the nodes of a tree of letters -/
section
variable {CN : Addr} {H : Hp} {L : Lay} {N : List Nat → Prop} {W : List (List Nat)}
theorem Trie.count (t : Trie CN H L N W) : ∀ (k : Nat) (p : List Nat), N p → 25 ≤ k + p.length → ∃ ls : List (List Nat), ls.Nodup ∧ (∀ q, q ∈ ls ↔ N q ∧ p <+: q) ∧ NdA CN H k (L.ad p) ls.length
  | 0, p, hp, h => by have := t.len p hp; omega
  | k + 1, p, hp, h => by
    have kids : ∀ ks : List Nat, ks.Nodup → (∀ c ∈ ks, N (p ++ [c])) → ∃ (ls : List (List Nat)) (ns : List Nat), ls.Nodup ∧ (∀ q, q ∈ ls ↔ ∃ c ∈ ks, N q ∧ p ++ [c] <+: q) ∧ ns.length = ks.length ∧ ns.sum = ls.length ∧
        ∀ (i : Nat) c, ks[i]? = some c → ∃ m, ns[i]? = some m ∧ NdA CN H k (L.ad (p ++ [c])) m := by
      intro ks
      induction ks with
      | nil => intro _ _; exact ⟨[], [], by simp, by simp, rfl, rfl, fun i c z => by simp at z⟩
      | cons c r ih =>
        intro nd hk
        obtain ⟨n1, n2⟩ := List.nodup_cons.mp nd
        obtain ⟨ls, ns, a1, a2, a3, a4, a5⟩ := ih n2 fun d hd => hk d (List.mem_cons_of_mem _ hd)
        obtain ⟨l1, b1, b2, b3⟩ := t.count k (p ++ [c]) (hk c (List.mem_cons_self ..)) (by rw [List.length_append, List.length_singleton]; omega)
        refine ⟨l1 ++ ls, l1.length :: ns, List.nodup_append.mpr ⟨b1, a1, fun x hx y hy z => ?_⟩, fun q => ?_, by simp [a3], by simp [a4], fun i d hi => ?_⟩
        · subst z
          obtain ⟨d, hd, _, hq⟩ := (a2 x).mp hy
          have hq2 := ((b2 x).mp hx).2
          have e := (List.prefix_of_prefix_length_le hq2 hq (by simp)).eq_of_length (by simp)
          have := (snoc_inj e).2
          exact n1 (this ▸ hd)
        · rw [List.mem_append, b2 q, a2 q]
          constructor
          · rintro (z | ⟨d, hd, z⟩)
            · exact ⟨c, List.mem_cons_self .., z⟩
            · exact ⟨d, List.mem_cons_of_mem _ hd, z⟩
          · rintro ⟨d, hd, z⟩
            rcases List.mem_cons.mp hd with rfl | hd
            · exact .inl z
            · exact .inr ⟨d, hd, z⟩
        · cases i with
          | zero =>
            simp at hi
            subst hi
            exact ⟨_, rfl, b3⟩
          | succ i => exact a5 i d (by simpa using hi)
    obtain ⟨ls, ns, a1, a2, a3, a4, a5⟩ := kids (L.kd p) (t.nod p hp) fun c hc => (t.kids p hp c).mp hc
    refine ⟨p :: ls, List.nodup_cons.mpr ⟨fun z => ?_, a1⟩, fun q => ?_, ?_⟩
    · obtain ⟨c, _, _, z⟩ := (a2 p).mp z
      have := z.length_le
      rw [List.length_append, List.length_singleton] at this
      omega
    · rw [List.mem_cons, a2 q]
      constructor
      · rintro (rfl | ⟨c, _, hq, z⟩)
        · exact ⟨hp, List.prefix_refl _⟩
        · exact ⟨hq, (List.prefix_append p [c]).trans z⟩
      · rintro ⟨hq, r, rfl⟩
        cases r with
        | nil => exact .inl (by simp)
        | cons c r =>
          have e : p ++ c :: r = (p ++ [c]) ++ r := by simp
          have hc : N (p ++ [c]) := t.pre r (p ++ [c]) (e ▸ hq)
          exact .inr ⟨c, (t.kids p hp c).mpr hc, hq, by rw [e]; exact List.prefix_append _ _⟩
    · refine ⟨L.dx p, _, L.bd p, kidV L p (L.kd p), ns, t.obj p hp, rfl, t.dic p hp, by rw [kidV_len, a3], by simp [a4]; omega, fun i key v hi => ?_⟩
      unfold kidV at hi
      rw [List.getElem?_map] at hi
      cases e : (L.kd p)[i]? with
      | none => rw [e] at hi; cases hi
      | some c =>
        rw [e] at hi
        injection hi with hi
        injection hi with _ hi
        obtain ⟨m, h1, h2⟩ := a5 i c e
        exact ⟨_, m, hi.symm, h1, h2⟩
end
/-! ### promises -/
def spCount (T CN : Addr) : Sp := fun vs H Q _ => ∃ (a : Addr) (n : Nat), vs = [.ref a] ∧ NdA CN H 26 a n ∧ n ≤ 100000 ∧ Tb H T ∧ Q (.int (n : Nat)) H
def spNodes (CN CT T : Addr) : Sp := fun vs H Q _ => ∃ (t : Addr) (W : List (List Nat)) (F : Addr → Prop), vs = [.ref t] ∧ TreeV CN CT H t W F ∧ W.length ≤ 400 ∧ Tb H T ∧
  ∀ ls : List (List Nat), ls.Nodup → (∀ q, q ∈ ls ↔ Nd W q) → Q (.int (ls.length : Nat)) H
theorem few_nodes {CN : Addr} {H : Hp} {L : Lay} {W : List (List Nat)} (t : Trie CN H L (Nd W) W) {ls : List (List Nat)} (hn : ls.Nodup) (hm : ∀ q, q ∈ ls ↔ Nd W q) : ls.length ≤ 1 + 25 * W.length := by
  have h1 := hn.length_le_of_subset fun q hq => nodesOf_mem ((hm q).mp hq)
  have h2 := nodesOf_len W fun w hw => t.len w (.inr ⟨w, hw, List.prefix_refl _⟩)
  omega
theorem g_cnt {T CN : Addr} {te : TE} {σ : L2.St} {H : Hp} {Q : VK} (h : te σ H fun v H1 => ∃ (D : Addr) (kvs : List (Key × V)) (ns : List Nat) (k : Nat), v = .ref D ∧ H1 D = some (.dK kvs) ∧ ns.length = kvs.length ∧ ns.sum ≤ 100000 ∧ k ≤ 25 ∧
  (∀ (i : Nat) key u, kvs[i]? = some (key, u) → ∃ c m, u = .ref c ∧ ns[i]? = some m ∧ NdA CN H1 k c m) ∧ Tb H1 T ∧ Q (.int (ns.sum : Nat)) H1) : tCnt T CN te σ H Q := h
end N0

/-! B32: two tables held, to the law's end. -/
namespace N0
open PySem PySem.Spec PyProof.Rows L2
section
variable {P : Program} {w : World} {K : PySem.W.Frag} {mg : Str → Option Value} {base : Heap} {x : Str} {st : Stmt} {N ps : List Str} {sp : Sp} {k : Nat} {c : Addr}
/-- as retab; what is told speaks of the heap but for the table -/
theorem retabF {f T : Addr} {fd : FuncData} (F : FnOk P w K mg base CX0 k f fd ps sp) : FnOk P w K mg base CX0 k f fd ps (fun vs H Q E => H T = some (.tbl #[]) ∧ sp vs (upd H T (tabO T)) (fun v H' => Tb H' T ∧ ∀ ps, Q v (upd H' T (.tbl ps))) E) := by
  refine ⟨fun vs H Q E h => F.len _ _ _ _ h.2, fun A outer s H args us vs Q E hr e0 hb r ⟨hT, hsp⟩ => ?_⟩
  have ne : ∀ b, H b = none → b ≠ T := fun b e z => by rw [z, hT] at e; cases e
  have hTs : s.heap.get? T = some { cls := .none, data := .fields #[] } := e0.hok T _ hT
  have off : ∀ {b : Addr}, b ≠ T → upd H T (tabO T) b = H b := fun h => upd_ne h
  have up : ∀ {b : Addr} {u : HO}, H b = some u → (∀ q, u ≠ .tbl q) → upd H T (tabO T) b = some u := fun {b u} e q => by
    rw [off (fun z => by rw [z, hT] at e; exact q _ (Option.some.inj e).symm)]
    exact e
  have e1 : Env0 P w K mg base A outer s (upd H T (tabO T)) := by
    refine { e0 with bs := fun b o e => ⟨(e0.bs b o e).1, ?_⟩, frf := fun b hb => ?_, hok := fun b u e => ?_ }
    · rw [off (ne b (e0.bs b o e).2)]; exact (e0.bs b o e).2
    · rw [off (ne b (e0.frf b hb))]; exact e0.frf b hb
    · by_cases hb : b = T
      · subst hb
        rw [upd_same] at e
        injection e with e
        subst e
        exact tabO_ok hTs (by first | trivial | exact True.intro | decide)
      · rw [off hb] at e
        exact (e0.hok b u e).stay (fun _ _ _ q => q) (fun d q => up q fun _ z => nomatch z) fun d xs q => up q fun _ z => nomatch z
  refine codeAny_mono (F.run A outer s _ args us vs _ E hr e1 hb r hsp) fun r s' hq => ?_
  cases r with
  | error e => exact hq
  | ok fl =>
    cases fl with
    | next => exact hq
    | brk => exact hq
    | cont => exact hq
    | ret u =>
      obtain ⟨v, H', os, bare, un, hok, rv, hT', q⟩ := hq
      obtain ⟨ps', hps, _⟩ := Tb.at hok hT'
      have off' : ∀ {b : Addr}, b ≠ T → upd H' T (.tbl ps') b = H' b := fun h => upd_ne h
      have up' : ∀ {b : Addr} {u : HO}, H' b = some u → u ≠ tabO T → upd H' T (.tbl ps') b = some u := fun {b u} e q => by
        rw [off' (fun z => by rw [z, hT'] at e; exact q (Option.some.inj e).symm)]
        exact e
      refine ⟨v, upd H' T (.tbl ps'), os, bare, ?_, fun b u e => ?_, rv, q _⟩
      · refine ⟨fun b o e n => un.keep b o e (by rw [off (ne b n)]; exact n), fun b o e n => un.slot b o e (by rw [off (ne b n)]; exact n), fun b o e n hx => ?_, un.there, fun b xs e => ?_, fun b o u e => ?_, fun b qs e => ?_⟩
        · rw [off' (ne b n)]
          exact un.free b o e (by rw [off (ne b n)]; exact n) hx
        · exact up' (un.tups b xs (up e fun _ z => nomatch z)) (fun z => nomatch z)
        · exact up' (un.frzs b o u (up e fun _ z => nomatch z)) (fun z => nomatch z)
        · by_cases hb : b = T
          · subst hb
            rw [hT] at e
            injection e with e
            injection e with e
            subst e
            exact ⟨ps', by rw [upd_same]; simp⟩
          · rw [off' hb]
            exact un.tbls b qs (by rw [off hb]; exact e)
      · by_cases hb : b = T
        · subst hb
          rw [upd_same] at e
          injection e with e
          subst e
          exact hps
        · rw [off' hb] at e
          exact (hok b u e).stay (fun _ _ _ q => q) (fun d q => up' q fun z => nomatch z) fun d xs q => up' q fun z => nomatch z
end
/-- the law: true of each script; both tables are held -/
def spLawTT (K : PySem.W.Frag) (T U : Addr) : Sp := fun vs H Q _ => ∃ (a : Addr) (ns : List Int), vs = [.ref a] ∧ SqL K H a (ns.map V.int) ∧ ns.length ≤ 63 ∧ Tb H T ∧ Tb H U ∧ ∀ H', Tb H' T → Tb H' U → Q (.bl true) H'
def spTabF (sp : Sp) (T : Addr) : Sp := fun vs H Q E => H T = some (.tbl #[]) ∧ sp vs (upd H T (tabO T)) (fun v H' => Tb H' T ∧ ∀ ps, Q v (upd H' T (.tbl ps))) E
theorem lawAtTT {l : PySem.W.OpenLaw} {w : World} {K : PySem.W.Frag} {mg : Str → Option Value} {fa : Addr} {h : Heap} {k : Nat} {p p2 : He.Defn} {fd : FuncData} (t : TabAt K h p) (t2 : TabAt K h p2) (X : K.In h) (hb : ∀ (s : Shared) (v : Value), BindsTo s fd ⟨[v], []⟩ [("_law_script", v)])
    (F : ∀ base : Heap, K.In base → base.Ns mainGlobals mg → GxR.TabB base mg (He.cT K p).1 (He.cT K p).2 → GxR.TabB base mg (He.cT K p2).1 (He.cT K p2).2 → FnOk l.prog w K mg base CX0 k fa fd ["_law_script"] (spLawTT K (He.cT K p).2 (He.cT K p2).2)) :
    LamX.LawAtS l w K CX0 k 63 "_law_script" mg fa h := by
  have sq : ∀ {H : Hp} {a T : Addr} {xs : List V}, H T = some (.tbl #[]) → SqL K H a xs → SqL K (upd H T (tabO T)) a xs := fun {H a T xs} hT0 hS => by
    have off : ∀ u, H a = some u → (∀ q, u ≠ .tbl q) → upd H T (tabO T) a = some u := fun u e q => by
      rw [upd_ne (fun z => by rw [z, hT0] at e; exact q _ (Option.some.inj e).symm)]; exact e
    rcases hS with (h1 | ⟨o, h1⟩) | h1
    · exact .inl (.inl (off _ h1 fun _ z => nomatch z))
    · exact .inl (.inr ⟨o, off _ h1 fun _ z => nomatch z⟩)
    · exact .inr h1
  have m1 : He.cT K p ∈ [He.cT K p, He.cT K p2] := List.mem_cons_self ..
  have m2 : He.cT K p2 ∈ [He.cT K p, He.cT K p2] := List.mem_cons_of_mem _ (List.mem_singleton.mpr rfl)
  have two : ∀ {φ : Addr × Addr → Prop}, φ (He.cT K p) → φ (He.cT K p2) → ∀ q ∈ [He.cT K p, He.cT K p2], φ q := fun {φ} a b q hq => by
    rcases List.mem_cons.mp hq with rfl | hq
    · exact a
    · rw [List.mem_singleton.mp hq]; exact b
  by_cases e : (He.cT K p2).2 = (He.cT K p).2
  · refine ⟨fd, [He.cT K p, He.cT K p2], spTabF (spLawTT K (He.cT K p).2 (He.cT K p2).2) (He.cT K p).2, two t.empty t2.empty, two t.out t2.out, two (PySem.W.codeHd_of_K X t.hd) (PySem.W.codeHd_of_K X t2.hd), hb, fun H a ns hl _ hT hS => ?_, fun base kb gb tb => ?_⟩
    · have hT0 := hT _ m1
      exact ⟨hT0, a, ns, rfl, sq hT0 hS, hl, upd_same, by rw [e]; exact upd_same, fun H' hT' _ => ⟨hT', fun _ => rfl⟩⟩
    · have tb0 := tb _ m1
      have tb2 := tb _ m2
      exact retabF (F base kb gb ⟨tb0.code, tb0.bm, tb0.gP⟩ ⟨tb2.code, tb2.bm, tb2.gP⟩)
  · refine ⟨fd, [He.cT K p, He.cT K p2], spTabF (spTabF (spLawTT K (He.cT K p).2 (He.cT K p2).2) (He.cT K p2).2) (He.cT K p).2, two t.empty t2.empty, two t.out t2.out, two (PySem.W.codeHd_of_K X t.hd) (PySem.W.codeHd_of_K X t2.hd), hb, fun H a ns hl _ hT hS => ?_, fun base kb gb tb => ?_⟩
    · have hT0 := hT _ m1
      have hT2 := hT _ m2
      have hT2' : upd H (He.cT K p).2 (tabO (He.cT K p).2) (He.cT K p2).2 = some (.tbl #[]) := by rw [upd_ne e]; exact hT2
      refine ⟨hT0, hT2', a, ns, rfl, sq hT2' (sq hT0 hS), hl, ?_, upd_same, fun H' hT' hU' => ⟨hU', fun _ => ⟨?_, fun _ => rfl⟩⟩⟩
      · show upd _ _ _ _ = _
        rw [upd_ne (Ne.symm e)]; exact upd_same
      · show upd _ _ _ _ = _
        rw [upd_ne (Ne.symm e)]; exact hT'
    · have tb0 := tb _ m1
      have tb2 := tb _ m2
      exact retabF (retabF (F base kb gb ⟨tb0.code, tb0.bm, tb0.gP⟩ ⟨tb2.code, tb2.bm, tb2.gP⟩))
end N0

/-! B33: what is told, in order, by distance and word. -/
namespace N0
open PySem PySem.Spec PyProof.Rows L2
theorem nearLt_no {l a b : List Nat} (h : nearLt l a b) (k : nearLt l b a) : False := by
  rcases h with h | ⟨h, h'⟩
  · rcases k with k | ⟨k, _⟩ <;> omega
  · rcases k with k | ⟨_, k'⟩
    · omega
    · exact List.lt_asymm h' k'
/-- in order, and of the same words: the same -/
theorem up_unique {l : List Nat} : ∀ {xs ys : List (List Nat)}, xs.Pairwise (nearLt l) → ys.Pairwise (nearLt l) → (∀ w, w ∈ xs ↔ w ∈ ys) → xs = ys
  | [], [], _, _, _ => rfl
  | [], y :: s, _, _, h => by have := (h y).mpr (List.mem_cons_self ..); cases this
  | x :: r, [], _, _, h => by have := (h x).mp (List.mem_cons_self ..); cases this
  | x :: r, y :: s, p, q, h => by
    obtain ⟨p1, p2⟩ := List.pairwise_cons.mp p
    obtain ⟨q1, q2⟩ := List.pairwise_cons.mp q
    have e : x = y := Classical.byContradiction fun n => by
      have h1 := ((List.mem_cons.mp ((h x).mp (List.mem_cons_self ..))).resolve_left n)
      have h2 := ((List.mem_cons.mp ((h y).mpr (List.mem_cons_self ..))).resolve_left fun z => n z.symm)
      exact nearLt_no (q1 x h1) (p1 y h2)
    subst e
    rw [up_unique p2 q2 fun w => ⟨fun hw => ?_, fun hw => ?_⟩]
    · exact (List.mem_cons.mp ((h w).mp (List.mem_cons_of_mem _ hw))).resolve_left fun z => nearLt_ne (p1 w hw) z.symm
    · exact (List.mem_cons.mp ((h w).mpr (List.mem_cons_of_mem _ hw))).resolve_left fun z => nearLt_ne (q1 w hw) z.symm
theorem NearW.uniq {W W' : List (List Nat)} {m : Nat} {l : List Nat} {xs ys : List (List Nat)} (a : NearW W m l xs) (b : NearW W' m l ys) (h : ∀ w, w ∈ W ↔ w ∈ W') : xs = ys :=
  up_unique a.up b.up fun w => by rw [a.mem w, b.mem w, h w]
/-- within one more there stand some more behind -/
theorem NearW.more {W : List (List Nat)} {m : Nat} {l : List Nat} {xs ys : List (List Nat)} (a : NearW W m l xs) (b : NearW W (m + 1) l ys) : ∃ zs, ys = xs ++ zs ∧ ∀ w ∈ zs, Lv.lev l w = m + 1 := by
  refine ⟨ys.filter fun w => decide (m < Lv.lev l w), up_unique b.up (List.pairwise_append.mpr ⟨a.up, b.up.filter _, fun x hx y hy => ?_⟩) fun w => ?_, fun w hw => ?_⟩
  · have h1 := ((a.mem x).mp hx).2
    have h2 := of_decide_eq_true (List.mem_filter.mp hy).2
    exact .inl (by omega)
  · rw [List.mem_append, List.mem_filter, a.mem w, b.mem w, decide_eq_true_iff]
    constructor
    · rintro ⟨h1, h2⟩
      by_cases h : Lv.lev l w ≤ m
      · exact .inl ⟨h1, h⟩
      · exact .inr ⟨⟨h1, h2⟩, by omega⟩
    · rintro (⟨h1, h2⟩ | ⟨h, _⟩)
      · exact ⟨h1, by omega⟩
      · exact h
  · obtain ⟨h1, h2⟩ := List.mem_filter.mp hw
    have h2 := of_decide_eq_true h2
    have h3 := ((b.mem w).mp h1).2
    omega
theorem NearW.few {W : List (List Nat)} {m : Nat} {l : List Nat} {ws : List (List Nat)} (a : NearW W m l ws) : ws.length ≤ W.length := by
  have h1 : ws.Nodup := List.Pairwise.imp (fun h => nearLt_ne h) a.up
  exact h1.length_le_of_subset fun w hw => ((a.mem w).mp hw).1
/-- a pair told: how far, and the word -/
def ToldV (l : List Nat) (H : Hp) (x : V) (w : List Nat) : Prop := ∃ t, x = .ref t ∧ H t = some (.tup [.int ((Lv.lev l w : Nat)), .str (mkS w)])
theorem ToldV.same {l : List Nat} {H H' : Hp} {x : V} {w : List Nat} (h : ToldV l H x w) (s : Same H H') : ToldV l H' x w := let ⟨t, e, k⟩ := h; ⟨t, e, s _ _ k⟩
theorem ToldV.keep {l : List Nat} {H H' : Hp} {x : V} {w : List Nat} (h : ToldV l H x w) (s : Keep H H') : ToldV l H' x w := let ⟨t, e, k⟩ := h; ⟨t, e, s _ _ k trivial⟩
theorem ToldV.but {l : List Nat} {H H' : Hp} {x : V} {w : List Nat} {A : Addr} {o : List V} (h : ToldV l H x w) (b : But A H H') (hA : H A = some (.lst o)) : ToldV l H' x w := by
  obtain ⟨t, e, k⟩ := h
  exact ⟨t, e, b _ _ k fun z => by rw [z, hA] at k; cases k⟩
/-- a told list at D -/
structure ToldL (l : List Nat) (H : Hp) (D : Addr) (ws : List (List Nat)) : Prop where
  ex : ∃ xs, H D = some (.lst xs) ∧ Each (ToldV l H) xs ws
theorem ToldL.same {l : List Nat} {H H' : Hp} {D : Addr} {ws : List (List Nat)} (t : ToldL l H D ws) (s : Same H H') : ToldL l H' D ws := let ⟨xs, e, k⟩ := t.ex; ⟨xs, s _ _ e, k.mono fun _ _ v => v.same s⟩
theorem ToldL.keep {l : List Nat} {H H' : Hp} {D : Addr} {ws : List (List Nat)} (t : ToldL l H D ws) (s : Keep H H') : ToldL l H' D ws := let ⟨xs, e, k⟩ := t.ex; ⟨xs, s _ _ e trivial, k.mono fun _ _ v => v.keep s⟩
def tolD (l : List Nat) (ws : List (List Nat)) : List PyData := ws.map fun w => .tuple [.int ((Lv.lev l w : Nat)), .str (mkS w)]
theorem tolD_ok {l : List Nat} : ∀ ws : List (List Nat), (∀ w ∈ ws, Wd w) → PyData.canLayAll0 (tolD l ws) = true ∧ PyData.depthAll (tolD l ws) ≤ 4
  | [], _ => ⟨rfl, by simp [tolD, PyData.depthAll]⟩
  | w :: r, h => by
    obtain ⟨h1, h2⟩ := tolD_ok (l := l) r fun u hu => h u (List.mem_cons_of_mem _ hu)
    refine ⟨?_, ?_⟩
    · show (PyData.canLay0 (.tuple [.int ((Lv.lev l w : Nat)), .str (mkS w)]) && PyData.canLayAll0 (tolD l r)) = true
      rw [h1]
      simp [PyData.canLay0, PyData.canLayAll0, strOk_wd (h w (List.mem_cons_self ..))]
    · show PyData.depthAll (PyData.tuple [.int ((Lv.lev l w : Nat)), .str (mkS w)] :: tolD l r) ≤ 4
      simp only [PyData.depthAll, PyData.depth]
      omega
theorem ToldL.dp {K : PySem.W.Frag} {l : List Nat} {H : Hp} {D : Addr} {ws : List (List Nat)} (t : ToldL l H D ws) : Dp K H (.ref D) (.list (tolD l ws)) := by
  obtain ⟨xs, e, k⟩ := t.ex
  refine .lst (SqL.of e) (dpAll_of (by rw [k.len]; simp [tolD]) fun i v d hv hd => ?_)
  unfold tolD at hd
  rw [List.getElem?_map] at hd
  cases ew : ws[i]? with
  | none => rw [ew] at hd; cases hd
  | some w =>
    rw [ew] at hd
    injection hd with hd
    subst hd
    obtain ⟨t, rfl, et⟩ := k.at_ i v w hv ew
    exact .tup (SqT.of et) (.cons (.int _) (.cons (.str _) .nil))
theorem tolD_sh {l : List Nat} {ws : List (List Nat)} (h : ∀ w ∈ ws, Wd w) : SeqAt.shaped (.list (tolD l ws)) = true := by
  obtain ⟨h1, h2⟩ := tolD_ok (l := l) ws h
  have c : PyData.canLay0 (.list (tolD l ws)) = true := h1
  unfold SeqAt.shaped
  rw [c, Bool.true_and, decide_eq_true_iff]
  simp only [PyData.depth]; omega
section
variable {K : PySem.W.Frag} {l : List Nat} {H : Hp} {Q : VK} {D D' : Addr} {ws : List (List Nat)}
theorem told_ne (t : ToldL l H D ws) (t' : ToldL l H D' ws) (h : ∀ w ∈ ws, Wd w) (q : Q (.bl false) H) : rNeD K (.ref D) (.ref D') H Q := by
  have c : PyData.canLay0 (.list (tolD l ws)) = true := (tolD_ok (l := l) ws h).1
  refine ⟨_, _, t.dp, t'.dp, tolD_sh h, tolD_sh h, ?_⟩
  rw [SeqAt.eqv_refl _ c]; exact q
theorem told_eq (t : ToldL l H D ws) (t' : ToldL l H D' ws) (h : ∀ w ∈ ws, Wd w) (q : Q (.bl true) H) : rEqD K (.ref D) (.ref D') H Q := by
  have c : PyData.canLay0 (.list (tolD l ws)) = true := (tolD_ok (l := l) ws h).1
  refine ⟨_, _, t.dp, t'.dp, tolD_sh h, tolD_sh h, ?_⟩
  rw [SeqAt.eqv_refl _ c]; exact q
end
def spToldL (CN CT T : Addr) : Sp := fun vs H Q _ => ∃ (t : Addr) (l : List Nat) (m : Nat) (W : List (List Nat)) (F : Addr → Prop), vs = [.ref t, .str (mkS l), .int (m : Nat)] ∧ Wd l ∧ l.length ≤ 24 ∧ m ≤ 24 ∧ Tb H T ∧ TreeV CN CT H t W F ∧ W.length ≤ 400 ∧
  ∀ ws D H', NearW W m l ws → Same H H' → H D = none → ToldL l H' D ws → Q (.ref D) H'
end N0

/-! B34: parts of lists; the nodes looked at, counted. -/
namespace N0
open PySem PySem.Spec PyProof.Rows L2
theorem cutV_to (xs : List V) (k : Nat) : cutV xs none (some (k : Int)) = xs.take k := by
  unfold cutV
  have e0 : HT.sIx xs.length 0 none = 0 := rfl
  have e1 : HT.sIx xs.length xs.length (some (k : Int)) = min k xs.length := by
    unfold HT.sIx
    dsimp only
    rw [if_neg (by omega)]
    rfl
  rw [e0, e1, Nat.sub_zero, List.drop_zero]
  by_cases h : k ≤ xs.length
  · rw [Nat.min_eq_left h]
  · rw [Nat.min_eq_right (by omega), List.take_of_length_le (Nat.le_refl _), List.take_of_length_le (by omega)]
theorem Each.split {R : V → List Nat → Prop} {xs : List V} {ws zs : List (List Nat)} (e : Each R xs (ws ++ zs)) : Each R (xs.take ws.length) ws ∧ Each R (xs.drop ws.length) zs := by
  have hl := e.len
  rw [List.length_append] at hl
  refine ⟨⟨by rw [List.length_take]; omega, fun i x q a b => ?_⟩, ⟨by rw [List.length_drop]; omega, fun i x q a b => ?_⟩⟩
  · have hi : i < ws.length := (List.getElem?_eq_some_iff.mp b).1
    rw [List.getElem?_take_of_lt hi] at a
    exact e.at_ i x q a (by rw [List.getElem?_append_left hi]; exact b)
  · rw [List.getElem?_drop] at a
    exact e.at_ _ x q a (by rw [List.getElem?_append_right (by omega), show ws.length + i - ws.length = i by omega]; exact b)
theorem Each.pre {R : V → List Nat → Prop} {xs : List V} {ws : List (List Nat)} (e : Each R xs ws) (k : Nat) : Each R (xs.take k) (ws.take k) := by
  refine ⟨by rw [List.length_take, List.length_take, e.len], fun i x q a b => ?_⟩
  have hi : i < k := by
    have := (List.getElem?_eq_some_iff.mp b).1
    rw [List.length_take] at this; omega
  rw [List.getElem?_take_of_lt hi] at a b
  exact e.at_ i x q a b
theorem ToldL.nil {l : List Nat} {H : Hp} {D : Addr} (e : H D = some (.lst [])) : ToldL l H D [] := ⟨[], e, Each.nil⟩
/-- with a wider bound no fewer nodes -/
theorem look_le {W : List (List Nat)} {m : Nat} {l : List Nat} {xs ys : List (List Nat)} (hx : xs.Nodup) (h : ∀ q, q ∈ xs ↔ Nd W q ∧ Lv.Nearb m q l) (k : ∀ q, q ∈ ys ↔ Nd W q ∧ Lv.Nearb (m + 1) q l) : xs.length ≤ ys.length :=
  hx.length_le_of_subset fun q hq => (k q).mpr ⟨((h q).mp hq).1, let ⟨j, h1, h2⟩ := ((h q).mp hq).2; ⟨j, h1, Nat.le_succ_of_le h2⟩⟩
theorem look_all {W : List (List Nat)} {m : Nat} {l : List Nat} {xs ys : List (List Nat)} (hx : xs.Nodup) (h : ∀ q, q ∈ xs ↔ Nd W q ∧ Lv.Nearb m q l) (k : ∀ q, q ∈ ys ↔ Nd W q) : xs.length ≤ ys.length :=
  hx.length_le_of_subset fun q hq => (k q).mpr ((h q).mp hq).1
/-- of the asked word alone -/
theorem NearW.alone {m : Nat} {l w : List Nat} {ws : List (List Nat)} (a : NearW [w] m l ws) : ws = if Lv.lev l w ≤ m then [w] else [] := by
  by_cases h : Lv.lev l w ≤ m
  · rw [if_pos h]
    exact up_unique a.up (List.pairwise_singleton _ _) fun u => by
      rw [a.mem u, List.mem_singleton]
      exact ⟨fun z => z.1, fun z => ⟨z, z ▸ h⟩⟩
  · rw [if_neg h]
    exact up_unique a.up List.Pairwise.nil fun u => by
      rw [a.mem u, List.mem_singleton]
      exact ⟨fun z => absurd (z.1 ▸ z.2) h, fun z => by cases z⟩
/-- but for one word -/
theorem NearW.but {W W' : List (List Nat)} {m : Nat} {l g : List Nat} {xs ys : List (List Nat)} (a : NearW W m l xs) (b : NearW W' m l ys) (h : ∀ w, w ≠ g → (w ∈ W ↔ w ∈ W')) : (xs.filter fun w => decide (w ≠ g)) = ys.filter fun w => decide (w ≠ g) :=
  up_unique (a.up.filter _) (b.up.filter _) fun w => by
    rw [List.mem_filter, List.mem_filter, a.mem w, b.mem w, decide_eq_true_iff]
    exact ⟨fun ⟨⟨x, y⟩, z⟩ => ⟨⟨(h w z).mp x, y⟩, z⟩, fun ⟨⟨x, y⟩, z⟩ => ⟨⟨(h w z).mpr x, y⟩, z⟩⟩
/-- that word -/
theorem NearW.just {W : List (List Nat)} {m : Nat} {l g : List Nat} {xs : List (List Nat)} (a : NearW W m l xs) : (xs.filter fun w => decide (w = g)) = if g ∈ W ∧ Lv.lev l g ≤ m then [g] else [] := by
  by_cases h : g ∈ W ∧ Lv.lev l g ≤ m
  · rw [if_pos h]
    exact up_unique (a.up.filter _) (List.pairwise_singleton _ _) fun u => by
      rw [List.mem_filter, a.mem u, List.mem_singleton, decide_eq_true_iff]
      exact ⟨fun z => z.2, fun z => ⟨z ▸ h, z⟩⟩
  · rw [if_neg h]
    exact up_unique (a.up.filter _) List.Pairwise.nil fun u => by
      rw [List.mem_filter, a.mem u, decide_eq_true_iff]
      exact ⟨fun z => absurd (z.2 ▸ z.1) h, fun z => by cases z⟩
end N0

/-! B35: lists of words: remove, in order, ==; what begins with a text; zip; a dict of texts. -/
namespace N0
open PySem PySem.Spec PyProof.Rows L2
/-! ### list.remove of a text -/
def eqs (z : Str) (v : Value) : Bool := match v with
  | .str y _ => y == z
  | _ => false
theorem eqs_gives {z : Str} {t : Tok} : ∀ {xs : List V} {us : List Value}, Vals xs us → (∀ x ∈ xs, ∃ y, x = .str y) → ∀ y ∈ us, MeetsSeq.EqGives y (.str z t) (eqs z y)
  | _, _, .nil, _ => fun y hy => by cases hy
  | _, _, .cons r rest, h => fun y hy => by
    rcases List.mem_cons.mp hy with e | e
    · obtain ⟨y0, rfl⟩ := h _ (List.mem_cons_self ..)
      obtain ⟨t', rfl⟩ := r
      rw [e]
      exact eqGives_str _ _ _ _
    · exact eqs_gives rest (fun x hx => h x (List.mem_cons_of_mem _ hx)) y e
theorem erase_map_ {α β : Type} (f : α → β) : ∀ (l : List α) (j : Nat), (l.map f).eraseIdx j = (l.eraseIdx j).map f
  | [], j => by simp
  | a :: r, 0 => by simp
  | a :: r, j + 1 => by
    have ih := erase_map_ f r j
    simp [ih]
theorem wordsV_erase (ws : List (List Nat)) (j : Nat) : (wordsV ws).eraseIdx j = wordsV (ws.eraseIdx j) := erase_map_ _ ws j
/-- the place of the first -/
theorem first_at {w : List Nat} : ∀ {ws : List (List Nat)}, w ∈ ws → ws.Nodup → ∃ j, ws[j]? = some w ∧ (∀ m, m < j → ws[m]? ≠ some w) ∧ ws.eraseIdx j = less ws w
  | [], h, _ => nomatch h
  | u :: r, h, nd => by
    obtain ⟨n1, n2⟩ := List.nodup_cons.mp nd
    by_cases e : u = w
    · subst e
      refine ⟨0, rfl, fun m hm => absurd hm (by omega), ?_⟩
      show r = List.filter _ (u :: r)
      rw [List.filter_cons_of_neg (by simp), List.filter_eq_self.mpr]
      intro a ha
      exact decide_eq_true fun z => n1 (z ▸ ha)
    · have h' : w ∈ r := (List.mem_cons.mp h).resolve_left fun z => e z.symm
      obtain ⟨j, h1, h2, h3⟩ := first_at h' n2
      refine ⟨j + 1, h1, fun m hm => ?_, ?_⟩
      · cases m with
        | zero => exact fun z => e (by injection z)
        | succ m => exact h2 m (by omega)
      · show u :: r.eraseIdx j = List.filter _ (u :: r)
        rw [List.filter_cons_of_pos (by simpa using e), h3]; rfl
def rRemW : V → List V → Hp → VK → Prop := fun x xs H Q => ∃ (l : Addr) (ws : List (List Nat)) (w : List Nat), x = .ref l ∧ xs = [.str (mkS w)] ∧ H l = some (.lst (wordsV ws)) ∧ w ∈ ws ∧ ws.Nodup ∧ Q .non (upd H l (.lst (wordsV (less ws w))))
theorem mt_removeW {X : Cx} : MtM X "list.remove" rRemW := by
  intro pins s σ H x xs v us Q I rx rxs h
  obtain ⟨l, ws, w, rfl, rfl, hH, hin, nd, q⟩ := h
  obtain ⟨j, hj, hno, he⟩ := first_at hin nd
  cases rx
  obtain ⟨u, rfl, ru⟩ := rxs.one
  obtain ⟨t, rfl⟩ := ru
  obtain ⟨z, its, n, r, hl, e⟩ := I.lstM hH
  rw [wordsV_len] at hl z
  have hjn : j < ws.length := (List.getElem?_eq_some_iff.mp hj).1
  have hjl : j < its.toArray.size := by rw [List.size_toArray]; omega
  have at_ : ∀ (m : Nat) (hm : m < its.toArray.size) (hw : m < ws.length), ∃ tk, its.toArray[m] = .str (mkS ws[m]) tk := fun m hm hw => by
    obtain ⟨u, hu, ⟨tk, ru⟩⟩ := r.get (wordsV_at (List.getElem?_eq_getElem hw))
    obtain ⟨h1, h2⟩ := List.getElem?_eq_some_iff.mp hu
    exact ⟨tk, by rw [← ru, ← h2]; simp⟩
  refine call_meets PySem.F.slot_list_remove ⟨_, e, rfl⟩ PySem.F.entry_list_remove (PySem.F.args_list_remove_2 _ _)
    (MeetsSeq.list_remove l its.toArray n (.str (mkS w) t) (eqs (mkS w)) (fun y hy => eqs_gives r (fun x hx => by obtain ⟨q, _, e⟩ := List.mem_map.mp hx; exact ⟨_, e.symm⟩) y (by simpa using hy)) j hjl ?_ ?_ (by rw [List.size_toArray]; omega)) ⟨e, ?_⟩
  · obtain ⟨tk, e1⟩ := at_ j hjl hjn
    rw [e1, (List.getElem?_eq_some_iff.mp hj).2]
    exact beq_self_eq_true (mkS w)
  · intro m hm hmj
    obtain ⟨tk, e1⟩ := at_ m hm (by omega)
    rw [e1]
    refine beq_eq_false_iff_ne.mpr fun e2 => hno m hmj ?_
    rw [List.getElem?_eq_getElem (by omega), mkS_inj.mp e2]
  · have rr := r.eraseIdx j
    rw [wordsV_erase, he] at rr
    refine ⟨.non, _, I.lset (its' := its.eraseIdx j) (t' := s.toks) hH e ?_ rr ?_, rfl, q⟩
    · show its.toArray.eraseIdxIfInBounds j = (its.eraseIdx j).toArray
      rw [List.eraseIdxIfInBounds_toArray]
    · have := less_few (ws := ws) (g := w)
      rw [wordsV_len]
      omega
theorem g_remove {l : Addr} {ws : List (List Nat)} {w : List Nat} {H : Hp} {Q : VK} (e : H l = some (.lst (wordsV ws))) (h : w ∈ ws) (nd : ws.Nodup) (q : Q .non (upd H l (.lst (wordsV (less ws w))))) : rRemW (.ref l) [.str (mkS w)] H Q := ⟨l, ws, w, rfl, rfl, e, h, nd, q⟩
/-! ### words in order -/
theorem rising_words : ∀ (cs : List (List Nat)) (a : List Nat), risingS (mkS a) (cs.map mkS) = true → (a :: cs).Pairwise fun x y => ¬ y < x
  | [], a, _ => by simp
  | b :: r, a, h => by
    change (!ltCps (mkS b).cps.toList (mkS a).cps.toList && risingS (mkS b) (r.map mkS)) = true at h
    rw [mkS_cps, mkS_cps] at h
    obtain ⟨h1, h2⟩ := Bool.and_eq_true_iff.mp h
    have ih := rising_words r b h2
    have hab : ¬ b < a := fun z => by rw [(ltCps_iff b a).mpr z] at h1; cases h1
    obtain ⟨h3, h4⟩ := List.pairwise_cons.mp ih
    refine List.pairwise_cons.mpr ⟨fun x hx => ?_, ih⟩
    rcases List.mem_cons.mp hx with e | hx
    · rw [e]; exact hab
    · have hb := h3 x hx
      intro z
      rcases lt_tri a b with h5 | h5 | h5
      · exact hb (List.lt_trans z h5)
      · exact hb (h5 ▸ z)
      · exact hab h5
theorem sorted_texts {ys : List Str} {ws : List (List Nat)} (hp : ys.Perm (ws.map mkS)) (hs : sortedS ys = true) (nd : ws.Nodup) : ∃ cs : List (List Nat), ys = cs.map mkS ∧ cs.Pairwise (· < ·) ∧ ∀ c, c ∈ cs ↔ c ∈ ws := by
  have hm : ∀ y ∈ ys, ∃ c, y = mkS c := fun y hy => by
    obtain ⟨c, _, e⟩ := List.mem_map.mp (hp.mem_iff.mp hy)
    exact ⟨c, e.symm⟩
  obtain ⟨cs, rfl⟩ : ∃ cs : List (List Nat), ys = cs.map mkS := by
    clear hp hs
    induction ys with
    | nil => exact ⟨[], rfl⟩
    | cons y r ih =>
      obtain ⟨c, rfl⟩ := hm y (List.mem_cons_self ..)
      obtain ⟨cs, rfl⟩ := ih fun y hy => hm y (List.mem_cons_of_mem _ hy)
      exact ⟨c :: cs, rfl⟩
  have mem : ∀ c, c ∈ cs ↔ c ∈ ws := fun c => by
    have e : ∀ zs : List (List Nat), c ∈ zs ↔ mkS c ∈ zs.map mkS := fun zs => by
      rw [List.mem_map]
      exact ⟨fun h => ⟨c, h, rfl⟩, fun ⟨d, hd, z⟩ => by rw [← mkS_inj.mp z]; exact hd⟩
    rw [e cs, e ws]; exact hp.mem_iff
  have nd2 : (cs.map mkS).Nodup := hp.nodup_iff.mpr (List.Pairwise.map _ (fun a b h z => h (mkS_inj.mp z)) nd)
  have le : cs.Pairwise fun x y => ¬ y < x := by
    cases cs with
    | nil => exact List.Pairwise.nil
    | cons a r => exact rising_words r a hs
  have nd3 : cs.Nodup := by
    have := List.pairwise_map.mp nd2
    exact this.imp fun h z => h (by rw [z])
  refine ⟨cs, rfl, ?_, mem⟩
  have both := le.and nd3
  exact both.imp fun {a b} h => by
    rcases lt_tri a b with h5 | h5 | h5
    · exact h5
    · exact absurd h5 h.2
    · exact absurd h5 h.1
theorem g_sortedW {K : PySem.W.Frag} {H : Hp} {Q : VK} {a : Addr} {ws : List (List Nat)} (h : SqL K H a (wordsV ws)) (nd : ws.Nodup) (few : ws.length < 64) (q : ∀ ys p, ys.Pairwise (· < ·) → (∀ w, w ∈ ys ↔ w ∈ ws) → H p = none → Q (.ref p) (upd H p (.lst (wordsV ys)))) : rSortedS K [.ref a] H Q := by
  refine ⟨a, ws.map mkS, rfl, ?_, by rw [List.length_map]; exact few, fun ys p h1 h2 h3 => ?_⟩
  · rw [List.map_map]; exact h
  · obtain ⟨cs, rfl, h4, h5⟩ := sorted_texts h1 h2 nd
    rw [List.map_map]
    exact q cs p h4 h5 h3
/-! ### what begins with a text -/
theorem starts_is (w p : List Nat) : Txt.startswith (mkS w) (mkS p) = decide (p <+: w) := by
  unfold Txt.startswith
  rw [Bool.eq_iff_iff, Bool.and_eq_true, decide_eq_true_iff, decide_eq_true_iff, PySem.StrLaws.subAt_eq, mkS_cps, mkS_cps, mkS_len, mkS_len, List.drop_zero, beq_iff_eq, List.prefix_iff_eq_take]
  constructor
  · exact fun h => h.2.symm
  · intro h
    refine ⟨?_, h.symm⟩
    have := congrArg List.length h
    rw [List.length_take] at this
    omega
def qStarts : V → List V → Hp → VK → Prop := fun x xs H Q => ∃ a b, x = .str a ∧ xs = [.str b] ∧ Q (.bl (Txt.startswith a b)) H
theorem mt_starts {X : Cx} : MtR X "str.startswith" qStarts := mt_startswith
theorem g_starts {w p : List Nat} {H : Hp} {Q : VK} (q : Q (.bl (decide (p <+: w))) H) : qStarts (.str (mkS w)) [.str (mkS p)] H Q := ⟨_, _, rfl, rfl, by rw [starts_is]; exact q⟩
/-- a method of a built-in kind, within a comprehension -/
theorem pe_bmK {X : Cx} {K : PySem.W.Frag} {T id : String} {name : Str} {r : V → List V → Hp → VK → Prop} {o e : Expr} {es : List Expr} {to : TE} {t : TA} {apos cpos : Pos} (hK : X.K = K) (pa : PlainAttrs T) (slot : Slot T name id) (hty : typeOf (.builtin id) = pure (.type "method_descriptor")) (hm : MtR X id r) (ho : PE X o to) (ha : PA X (e :: es) t)
    (hbase : attributeBase o name X.env (eval o X.env) = eval o X.env := by rfl)
    (hfew : ((backTo cpos (starEach (e :: es) X.env)).all (fun x => !x.1) && (backToKw cpos (keywordEach [] X.env)).all (fun x => x.1.isSome)
      && decide ((e :: es).length + ([] : List Keyword).length + (if ([] : List Keyword).isEmpty then 0 else 1) < 30)) = true := by rfl)
    (hline : (apos.endLine == cpos.line) = true := by rfl) (hs : starEach (e :: es) X.env = (false, eval e X.env) :: starEach es X.env := by rfl) (hplain : (backTo cpos (starEach es X.env)).any (·.1) = false := by rfl) :
    PE X (.Call (.Attribute o name apos) (e :: es) [] cpos) (tBM K T r to t) := by
  rw [← hK]
  exact pe_bm pa slot hty hm ho ha hbase hfew hline hs hplain
/-! ### the same lists -/
theorem neD_same {K : PySem.W.Frag} {H : Hp} {Q : VK} {p q : Addr} {xs : List V} (hp : SqL K H p xs) (hq : SqL K H q xs) (h : ∀ v ∈ xs, Dat K H v 20) (r : Q (.bl false) H) : rNeD K (.ref p) (.ref q) H Q := by
  obtain ⟨ds, h1, h2, h3⟩ := dat_all h
  have c : PyData.canLay0 (.list ds) = true := h2
  have sh : SeqAt.shaped (.list ds) = true := by
    unfold SeqAt.shaped
    rw [c, Bool.true_and, decide_eq_true_iff]
    simp only [PyData.depth]; omega
  refine ⟨.list ds, .list ds, .lst hp h1, .lst hq h1, sh, sh, ?_⟩
  rw [SeqAt.eqv_refl _ c]; exact r
theorem dat_words {K : PySem.W.Frag} {H : Hp} {ws : List (List Nat)} (h : ∀ w ∈ ws, Wd w) : ∀ v ∈ wordsV ws, Dat K H v 20 := fun v hv => by
  obtain ⟨w, hw, rfl⟩ := List.mem_map.mp hv
  exact dat_str (strOk_wd (h w hw))
theorem dat_small {K : PySem.W.Frag} {H : Hp} {ws : List (List Nat)} (h : ∀ w ∈ ws, ∀ c ∈ w, c < 0x110000) : ∀ v ∈ wordsV ws, Dat K H v 20 := fun v hv => by
  obtain ⟨w, hw, rfl⟩ := List.mem_map.mp hv
  exact dat_str (strOk_small (h w hw))
theorem Begun.uniq {W : List (List Nat)} {p : List Nat} {xs ys : List (List Nat)} (a : Begun W p xs) (b : Begun W p ys) : xs = ys := up_eq a.up b.up fun w => (a.mem w).trans (b.mem w).symm
/-! ### zip of two lists -/
def qZip (K : PySem.W.Frag) (R : It → Hp → Prop) : List V → Hp → Prop := fun vs H1 => ∃ a b xs ys, vs = [.ref a, .ref b] ∧ SqL K H1 a xs ∧ SqL K H1 b ys ∧ R (Itz K a b) H1
theorem g_iZip {σ : L2.St} {H : Hp} {ta : TA} {K : PySem.W.Frag} {R : It → Hp → Prop} (h : ta σ H (qZip K R)) : iZip K ta σ H R := h
theorem g_zip {K : PySem.W.Frag} {g : TG} {tb : TS} {nx bk ct : L2.St → Hp → Prop} {rt : VK} {σ : L2.St} {H : Hp} {a b : Addr} {xs ys : List V} (ha : SqL K H a xs) (hb : SqL K H b ys) (hl : xs.length = ys.length) (Pv : Nat → L2.St → Hp → Prop) (p0 : Pv 0 σ H)
    (hk : ∀ i σ' H', i ≤ xs.length → Pv i σ' H' → SqL K H' a xs ∧ SqL K H' b ys)
    (hs : ∀ (i : Nat) x y σ' H' p, xs[i]? = some x → ys[i]? = some y → Pv i σ' H' → H' p = none → g (.ref p) σ' (upd H' p (.tup [x, y])) fun σ2 H2 => tb (Ends.mk (Pv (i + 1)) rt nx (Pv (i + 1))) σ2 H2)
    (hd : ∀ σ' H', Pv xs.length σ' H' → nx σ' H') : qZip K (kFor g tb (Ends.mk nx rt bk ct) σ) [.ref a, .ref b] H := by
  refine ⟨a, b, xs, ys, rfl, ha, hb, fun i m σ' H' => i + m = xs.length ∧ Pv i σ' H', ⟨xs.length, by omega, p0⟩, fun i m σ' H' ⟨e, pv⟩ => ?_⟩
  obtain ⟨h1, h2⟩ := hk i σ' H' (by omega) pv
  have wz := walk_zip (K := K) (a := a) (b := b) (xs := xs) (ys := ys) (n := xs.length) (by omega)
  rcases Nat.lt_or_ge i xs.length with h | h
  · refine .inr ⟨wz.goes i H' h ⟨h1, h2⟩, Pv (i + 1), fun σ2 H2 p2 => ⟨m - 1, by omega, by omega, p2⟩, fun x H2 hy => ?_⟩
    obtain ⟨T, x1, y1, rfl, hT, rfl, hx, hy⟩ := hy
    exact hs i x1 y1 σ' H' T (hx xs h1) (hy ys h2) pv hT
  · have hi : i = xs.length := by omega
    subst hi
    exact .inl ⟨wz.stops H' ⟨h1, h2⟩, hd σ' H' pv⟩
/-! ### a dict of texts -/
def trueK (qs : List (List Nat)) : List (Key × V) := qs.map fun q => (Sum.inr (mkS q), V.bl true)
theorem valV_trueK {q : List Nat} : ∀ qs : List (List Nat), valV (trueK qs) (Sum.inr (mkS q) : Key) = if q ∈ qs then some (.bl true) else none
  | [] => rfl
  | d :: r => by
    have ih := valV_trueK (q := q) r
    show valV ((Sum.inr (mkS d), V.bl true) :: trueK r) (Sum.inr (mkS q) : Key) = _
    by_cases e : d = q
    · subst e
      rw [valV_pos rfl, if_pos (List.mem_cons_self ..)]
    · rw [valV_neg (fun z => e (by injection z with z; exact mkS_inj.mp z)), ih]
      by_cases h : q ∈ r
      · rw [if_pos h, if_pos (List.mem_cons_of_mem _ h)]
      · rw [if_neg h, if_neg (fun z => (List.mem_cons.mp z).elim (fun w => e w.symm) h)]
theorem trueK_len {qs : List (List Nat)} : (trueK qs).length = qs.length := by simp [trueK]
theorem trueK_new {qs : List (List Nat)} {q : List Nat} (h : q ∉ qs) : putK (trueK qs) (Sum.inr (mkS q) : Key) (.bl true) = trueK (qs ++ [q]) := by
  rw [putK_new _ (by rw [valV_trueK, if_neg h])]
  unfold trueK
  rw [List.map_append]; rfl
theorem trueK_old {qs : List (List Nat)} {q : List Nat} (h : q ∈ qs) : putK (trueK qs) (Sum.inr (mkS q) : Key) (.bl true) = trueK qs := by
  unfold putK
  have ha : ((trueK qs).any fun kv => decide (kv.1 = (Sum.inr (mkS q) : Key))) = true := by
    rw [List.any_eq_true]
    exact ⟨(Sum.inr (mkS q), .bl true), List.mem_map.mpr ⟨q, h, rfl⟩, decide_eq_true rfl⟩
  rw [if_pos ha]
  unfold trueK
  rw [List.map_map]
  refine List.map_congr_left fun x hx => ?_
  show (if (Sum.inr (mkS x) : Key) = Sum.inr (mkS q) then ((Sum.inr (mkS x) : Key), V.bl true) else (Sum.inr (mkS x), V.bl true)) = _
  split <;> rfl
/-- one text more, where it lacks -/
def plus (qs : List (List Nat)) (q : List Nat) : List (List Nat) := if q ∈ qs then qs else qs ++ [q]
theorem plus_mem {qs : List (List Nat)} {q x : List Nat} : x ∈ plus qs q ↔ x ∈ qs ∨ x = q := by
  unfold plus
  split
  · rename_i h; exact ⟨.inl, fun z => z.elim id fun e => e ▸ h⟩
  · rw [List.mem_append, List.mem_singleton]
theorem plus_nd {qs : List (List Nat)} {q : List Nat} (h : qs.Nodup) : (plus qs q).Nodup := by
  unfold plus
  split
  · exact h
  · rename_i n
    rw [List.nodup_append]
    exact ⟨h, by simp, fun a ha b hb z => n (by rw [← List.mem_singleton.mp hb, ← z]; exact ha)⟩
theorem g_dputT {D : Addr} {qs : List (List Nat)} {q : List Nat} {N : Hp → Prop} {H : Hp} (e : H D = some (.dK (trueK qs))) (few : qs.length ≤ 100000) (n : N (upd H D (.dK (trueK (plus qs q))))) : qDput N (.bl true) (.ref D) (.str (mkS q)) H := by
  refine ⟨D, _, rfl, DPut.k (k := Sum.inr (mkS q)) e (by rw [trueK_len]; exact Nat.lt_of_le_of_lt few (by decide)), ?_⟩
  by_cases h : q ∈ qs
  · rw [trueK_old h]
    have : plus qs q = qs := if_pos h
    rw [this] at n; exact n
  · rw [trueK_new h]
    have : plus qs q = qs ++ [q] := if_neg h
    rw [this] at n; exact n
/-! ### law_k07: a tree and a plain list -/
def spDeed (CN CT T : Addr) : Sp := fun vs H Q _ => ∃ (t k : Addr) (W ks : List (List Nat)) (F : Addr → Prop) (l : List Nat) (n : Int), vs = [.ref t, .ref k, .int n, .str (mkS l)] ∧ Wd l ∧ l.length ≤ 24 ∧ Tb H T ∧ TreeV CN CT H t W F ∧ H k = some (.lst (wordsV ks)) ∧ ks.Nodup ∧ SameW W ks ∧ ks.length ≤ 399 ∧
  ∀ W' ks' F' H', Off (fun y => F y ∨ y = k) H H' → TreeV CN CT H' t W' F' → (∀ y, F' y → F y ∨ H y = none) → H' k = some (.lst (wordsV ks')) → ks'.Nodup → SameW W' ks' → ks'.length ≤ ks.length + 1 → Q (.bl true) H'
def spBegs : Sp := fun vs H Q _ => ∃ (p : Addr) (ws : List (List Nat)), vs = [.ref p] ∧ H p = some (.lst (wordsV ws)) ∧ AllW ws ∧ ws.length ≤ 399 ∧ ∀ (ls : List (List Nat)) H', ls.Nodup → (∀ q, q ∈ ls ↔ Nd ws q) → Same H H' → Q (.int (ls.length : Nat)) H'
def spStands (CN CT T U : Addr) : Sp := fun vs H Q _ => ∃ (t k : Addr) (W ks : List (List Nat)) (F : Addr → Prop) (l : List Nat), vs = [.ref t, .ref k, .str (mkS l)] ∧ Wd l ∧ l.length ≤ 24 ∧ Tb H T ∧ Tb H U ∧ TreeV CN CT H t W F ∧ H k = some (.lst (wordsV ks)) ∧ ks.Nodup ∧ SameW W ks ∧ AllW ks ∧ ks.length < 64 ∧
  ∀ H', Same H H' → Q (.bl true) H'
end N0

/-! B36: in a list or tuple of any things of known kinds. -/
namespace N0
open PySem PySem.Spec PyProof.Rows L2
open AutoSeq1 (wpAny_loadPart')
open MeetsSeq SeqAt
/-! ### a dict against other things -/
theorem dictEq_none (l : Addr) : Meets (Builtin.«dict.__eq__» ⟨[.ref l, .none], []⟩) (fun _ R s => DObj s.heap l ∧ R (.ok (.ret .notImplemented)) s) :=
  .of_wp fun prog w A R s h => by
    obtain ⟨hp, g, d, tk, os⟩ := s
    obtain ⟨⟨es, n, sl, hd⟩, h⟩ := h
    have sub := PySem.F.sub_NoneType_dict
    wp_walk using wpAny_loadPart' hd
    exact ⟨_, rfl, h⟩
theorem noneEq_dict (l : Addr) : Meets (Builtin.«NoneType.__eq__» ⟨[.none, .ref l], []⟩) (fun _ R s => DObj s.heap l ∧ R (.ok (.ret .notImplemented)) s) :=
  .of_wp fun prog w A R s h => by
    obtain ⟨hp, g, d, tk, os⟩ := s
    obtain ⟨⟨es, n, sl, hd⟩, h⟩ := h
    wp_walk using wpAny_loadPart' hd, wpAny_load hd
    exact ⟨_, rfl, h⟩
theorem dictEq_bool (l : Addr) (b : Bool) : Meets (Builtin.«dict.__eq__» ⟨[.ref l, .bool b], []⟩) (fun _ R s => DObj s.heap l ∧ R (.ok (.ret .notImplemented)) s) :=
  .of_wp fun prog w A R s h => by
    obtain ⟨hp, g, d, tk, os⟩ := s
    obtain ⟨⟨es, n, sl, hd⟩, h⟩ := h
    have sub := PySem.F.sub_bool_dict
    wp_walk using wpAny_loadPart' hd
    exact ⟨_, rfl, h⟩
theorem boolEq_dict (l : Addr) (b : Bool) : Meets (Builtin.«int.__eq__» ⟨[.bool b, .ref l], []⟩) (fun _ R s => DObj s.heap l ∧ R (.ok (.ret .notImplemented)) s) :=
  .of_wp fun prog w A R s h => by
    obtain ⟨hp, g, d, tk, os⟩ := s
    obtain ⟨⟨es, n, sl, hd⟩, h⟩ := h
    wp_walk using wpAny_loadPart' hd, wpAny_load hd
    exact ⟨_, rfl, h⟩
theorem dictEq_int (l : Addr) (b : Int) (u : Tok) : Meets (Builtin.«dict.__eq__» ⟨[.ref l, .int b u], []⟩) (fun _ R s => DObj s.heap l ∧ R (.ok (.ret .notImplemented)) s) :=
  .of_wp fun prog w A R s h => by
    obtain ⟨hp, g, d, tk, os⟩ := s
    obtain ⟨⟨es, n, sl, hd⟩, h⟩ := h
    have sub := PySem.F.sub_int_dict
    wp_walk using wpAny_loadPart' hd
    exact ⟨_, rfl, h⟩
theorem intEq_dict (l : Addr) (b : Int) (u : Tok) : Meets (Builtin.«int.__eq__» ⟨[.int b u, .ref l], []⟩) (fun _ R s => DObj s.heap l ∧ R (.ok (.ret .notImplemented)) s) :=
  .of_wp fun prog w A R s h => by
    obtain ⟨hp, g, d, tk, os⟩ := s
    obtain ⟨⟨es, n, sl, hd⟩, h⟩ := h
    wp_walk using wpAny_loadPart' hd, wpAny_load hd
    exact ⟨_, rfl, h⟩
theorem dictEq_seq (l b : Addr) (c : String) (items : Array Value) (n : Nat) (dd : Option Addr) (sl : Array (Option Value)) (hc : c = "list" ∨ c = "tuple") :
    Meets (Builtin.«dict.__eq__» ⟨[.ref l, .ref b], []⟩) (fun _ R s => DObj s.heap l ∧ s.heap.get? b = some { cls := .type c, dict := dd, data := .seq items n, slots := sl } ∧ R (.ok (.ret .notImplemented)) s) :=
  .of_wp fun prog w A R s h => by
    obtain ⟨hp, g, d, tk, os⟩ := s
    obtain ⟨⟨es, n, sl, hd⟩, hb, h⟩ := h
    rcases hc with rfl | rfl
    · have sub := PySem.F.sub_list_dict
      wp_walk using wpAny_loadPart' hd, wpAny_loadPart' hb
      exact ⟨_, rfl, h⟩
    · have sub := PySem.F.sub_tuple_dict
      wp_walk using wpAny_loadPart' hd, wpAny_loadPart' hb
      exact ⟨_, rfl, h⟩
theorem listEq_dict (l b : Addr) (items : Array Value) (n : Nat) (dd : Option Addr) (sl : Array (Option Value)) :
    Meets (Builtin.«list.__eq__» ⟨[.ref b, .ref l], []⟩) (fun _ R s => DObj s.heap l ∧ s.heap.get? b = some { cls := .type "list", dict := dd, data := .seq items n, slots := sl } ∧ R (.ok (.ret .notImplemented)) s) :=
  .of_wp fun prog w A R s h => by
    obtain ⟨hp, g, d, tk, os⟩ := s
    obtain ⟨⟨es, n, sl, hd⟩, hb, h⟩ := h
    have sub := PySem.F.sub_dict_list
    wp_walk using wpAny_loadPart' hd, wpAny_loadPart' hb
    exact ⟨_, rfl, h⟩
theorem tupleEq_dict (l b : Addr) (items : Array Value) (n : Nat) (dd : Option Addr) (sl : Array (Option Value)) :
    Meets (Builtin.«tuple.__eq__» ⟨[.ref b, .ref l], []⟩) (fun _ R s => DObj s.heap l ∧ s.heap.get? b = some { cls := .type "tuple", dict := dd, data := .seq items n, slots := sl } ∧ R (.ok (.ret .notImplemented)) s) :=
  .of_wp fun prog w A R s h => by
    obtain ⟨hp, g, d, tk, os⟩ := s
    obtain ⟨⟨es, n, sl, hd⟩, hb, h⟩ := h
    have sub := PySem.F.sub_dict_tuple
    wp_walk using wpAny_loadPart' hd, wpAny_loadPart' hb
    exact ⟨_, rfl, h⟩
section
variable {A : Around} {s : Shared} {l : Addr}
theorem rcD_none (hd : DObj s.heap l) (hu : A.units < cLine) : RcAt A s (.ref l) (.none) false := fun prog w E Q h =>
  rc_eq_decline_or (k := false) (dobj_ty hd) rfl (by decide) PySem.F.sub_NoneType_dict PySem.F.slot_dict_eq PySem.F.slot_NoneType_eq_refl
    (fun _ hq => call_meets PySem.F.slot_dict_eq (dobj_ty hd) PySem.F.entry_dict_eq (PySem.F.args_dict_eq_2 _ _) (dictEq_none l) ⟨hd, hq⟩)
    (fun _ hq => call_meets PySem.F.slot_NoneType_eq_refl rfl PySem.F.entry_NoneType_eq (PySem.F.args_NoneType_eq_2 _ _) (noneEq_dict l) ⟨hd, hq⟩)
    (fun _ hq => wpAny_of_eq (rfl : isSame (.ref l) (.none) = pure false) hq) (.inr hu) h
theorem rc_noneD (hd : DObj s.heap l) (hu : A.units < cLine) : RcAt A s (.none) (.ref l) false := fun prog w E Q h =>
  rc_eq_decline_or (k := false) rfl (dobj_ty hd) (by decide) PySem.F.sub_dict_NoneType PySem.F.slot_NoneType_eq PySem.F.slot_dict_eq_refl
    (fun _ hq => call_meets PySem.F.slot_NoneType_eq rfl PySem.F.entry_NoneType_eq (PySem.F.args_NoneType_eq_2 _ _) (noneEq_dict l) ⟨hd, hq⟩)
    (fun _ hq => call_meets PySem.F.slot_dict_eq_refl (dobj_ty hd) PySem.F.entry_dict_eq (PySem.F.args_dict_eq_2 _ _) (dictEq_none l) ⟨hd, hq⟩)
    (fun _ hq => wpAny_of_eq (rfl : isSame (.none) (.ref l) = pure false) hq) (.inr hu) h
theorem eqD_none (hd : DObj s.heap l) (hu : A.units < cLine) : EqAt A s (.ref l) (.none) false := fun prog w E Q h => by
  unfold eqBool
  refine wpAny_holding ?_
  refine wpAny_ite_split (fun z => absurd (eq_of_beq z) nofun) (fun _ => ?_)
  exact wpAny_bind (rcD_none hd hu prog w E _ (wpAny_truthy_bool h))
theorem eq_noneD (hd : DObj s.heap l) (hu : A.units < cLine) : EqAt A s (.none) (.ref l) false := fun prog w E Q h => by
  unfold eqBool
  refine wpAny_holding ?_
  refine wpAny_ite_split (fun z => absurd (eq_of_beq z) nofun) (fun _ => ?_)
  exact wpAny_bind (rc_noneD hd hu prog w E _ (wpAny_truthy_bool h))
theorem rcD_bool (b : Bool) (hd : DObj s.heap l) (hu : A.units < cLine) : RcAt A s (.ref l) (.bool b) false := fun prog w E Q h =>
  rc_eq_decline_or (k := false) (dobj_ty hd) rfl (by decide) PySem.F.sub_bool_dict PySem.F.slot_dict_eq PySem.F.slot_bool_eq_refl
    (fun _ hq => call_meets PySem.F.slot_dict_eq (dobj_ty hd) PySem.F.entry_dict_eq (PySem.F.args_dict_eq_2 _ _) (dictEq_bool l b) ⟨hd, hq⟩)
    (fun _ hq => call_meets PySem.F.slot_bool_eq_refl rfl PySem.F.entry_int_eq (PySem.F.args_int_eq_2 _ _) (boolEq_dict l b) ⟨hd, hq⟩)
    (fun _ hq => wpAny_of_eq (rfl : isSame (.ref l) (.bool b) = pure false) hq) (.inr hu) h
theorem rc_boolD (b : Bool) (hd : DObj s.heap l) (hu : A.units < cLine) : RcAt A s (.bool b) (.ref l) false := fun prog w E Q h =>
  rc_eq_decline_or (k := false) rfl (dobj_ty hd) (by decide) PySem.F.sub_dict_bool PySem.F.slot_bool_eq PySem.F.slot_dict_eq_refl
    (fun _ hq => call_meets PySem.F.slot_bool_eq rfl PySem.F.entry_int_eq (PySem.F.args_int_eq_2 _ _) (boolEq_dict l b) ⟨hd, hq⟩)
    (fun _ hq => call_meets PySem.F.slot_dict_eq_refl (dobj_ty hd) PySem.F.entry_dict_eq (PySem.F.args_dict_eq_2 _ _) (dictEq_bool l b) ⟨hd, hq⟩)
    (fun _ hq => wpAny_of_eq (rfl : isSame (.bool b) (.ref l) = pure false) hq) (.inr hu) h
theorem eqD_bool (b : Bool) (hd : DObj s.heap l) (hu : A.units < cLine) : EqAt A s (.ref l) (.bool b) false := fun prog w E Q h => by
  unfold eqBool
  refine wpAny_holding ?_
  refine wpAny_ite_split (fun z => absurd (eq_of_beq z) nofun) (fun _ => ?_)
  exact wpAny_bind (rcD_bool b hd hu prog w E _ (wpAny_truthy_bool h))
theorem eq_boolD (b : Bool) (hd : DObj s.heap l) (hu : A.units < cLine) : EqAt A s (.bool b) (.ref l) false := fun prog w E Q h => by
  unfold eqBool
  refine wpAny_holding ?_
  refine wpAny_ite_split (fun z => absurd (eq_of_beq z) nofun) (fun _ => ?_)
  exact wpAny_bind (rc_boolD b hd hu prog w E _ (wpAny_truthy_bool h))
theorem rcD_int (b : Int) (u : Tok) (hd : DObj s.heap l) (hu : A.units < cLine) : RcAt A s (.ref l) (.int b u) false := fun prog w E Q h =>
  rc_eq_decline_or (k := false) (dobj_ty hd) (typeIs_int s b u) (by decide) PySem.F.sub_int_dict PySem.F.slot_dict_eq PySem.F.slot_int_eq_refl
    (fun _ hq => call_meets PySem.F.slot_dict_eq (dobj_ty hd) PySem.F.entry_dict_eq (PySem.F.args_dict_eq_2 _ _) (dictEq_int l b u) ⟨hd, hq⟩)
    (fun _ hq => call_meets PySem.F.slot_int_eq_refl (typeIs_int s b u) PySem.F.entry_int_eq (PySem.F.args_int_eq_2 _ _) (intEq_dict l b u) ⟨hd, hq⟩)
    (fun _ hq => wpAny_of_eq (rfl : isSame (.ref l) (.int b u) = pure false) hq) (.inr hu) h
theorem rc_intD (b : Int) (u : Tok) (hd : DObj s.heap l) (hu : A.units < cLine) : RcAt A s (.int b u) (.ref l) false := fun prog w E Q h =>
  rc_eq_decline_or (k := false) (typeIs_int s b u) (dobj_ty hd) (by decide) PySem.F.sub_dict_int PySem.F.slot_int_eq PySem.F.slot_dict_eq_refl
    (fun _ hq => call_meets PySem.F.slot_int_eq (typeIs_int s b u) PySem.F.entry_int_eq (PySem.F.args_int_eq_2 _ _) (intEq_dict l b u) ⟨hd, hq⟩)
    (fun _ hq => call_meets PySem.F.slot_dict_eq_refl (dobj_ty hd) PySem.F.entry_dict_eq (PySem.F.args_dict_eq_2 _ _) (dictEq_int l b u) ⟨hd, hq⟩)
    (fun _ hq => wpAny_of_eq (rfl : isSame (.int b u) (.ref l) = pure false) hq) (.inr hu) h
theorem eqD_int (b : Int) (u : Tok) (hd : DObj s.heap l) (hu : A.units < cLine) : EqAt A s (.ref l) (.int b u) false := fun prog w E Q h => by
  unfold eqBool
  refine wpAny_holding ?_
  refine wpAny_ite_split (fun z => absurd (eq_of_beq z) nofun) (fun _ => ?_)
  exact wpAny_bind (rcD_int b u hd hu prog w E _ (wpAny_truthy_bool h))
theorem eq_intD (b : Int) (u : Tok) (hd : DObj s.heap l) (hu : A.units < cLine) : EqAt A s (.int b u) (.ref l) false := fun prog w E Q h => by
  unfold eqBool
  refine wpAny_holding ?_
  refine wpAny_ite_split (fun z => absurd (eq_of_beq z) nofun) (fun _ => ?_)
  exact wpAny_bind (rc_intD b u hd hu prog w E _ (wpAny_truthy_bool h))
theorem rcD_str (b : Str) (u : Tok) (hd : DObj s.heap l) (hu : A.units < cLine) : RcAt A s (.ref l) (.str b u) false := fun prog w E Q h =>
  rc_eq_decline_or (k := false) (dobj_ty hd) (typeIs_str s b u) (by decide) PySem.F.sub_str_dict PySem.F.slot_dict_eq PySem.F.slot_str_eq_refl
    (fun _ hq => call_meets PySem.F.slot_dict_eq (dobj_ty hd) PySem.F.entry_dict_eq (PySem.F.args_dict_eq_2 _ _) (deq_no l b u) ⟨hd, hq⟩)
    (fun _ hq => call_meets PySem.F.slot_str_eq_refl (typeIs_str s b u) PySem.F.entry_str_eq (PySem.F.args_str_eq_2 _ _) (seq_no l b u) ⟨hd, hq⟩)
    (fun _ hq => wpAny_of_eq (rfl : isSame (.ref l) (.str b u) = pure false) hq) (.inr hu) h
theorem rc_strD (b : Str) (u : Tok) (hd : DObj s.heap l) (hu : A.units < cLine) : RcAt A s (.str b u) (.ref l) false := fun prog w E Q h =>
  rc_eq_decline_or (k := false) (typeIs_str s b u) (dobj_ty hd) (by decide) PySem.F.sub_dict_str PySem.F.slot_str_eq PySem.F.slot_dict_eq_refl
    (fun _ hq => call_meets PySem.F.slot_str_eq (typeIs_str s b u) PySem.F.entry_str_eq (PySem.F.args_str_eq_2 _ _) (seq_no l b u) ⟨hd, hq⟩)
    (fun _ hq => call_meets PySem.F.slot_dict_eq_refl (dobj_ty hd) PySem.F.entry_dict_eq (PySem.F.args_dict_eq_2 _ _) (deq_no l b u) ⟨hd, hq⟩)
    (fun _ hq => wpAny_of_eq (rfl : isSame (.str b u) (.ref l) = pure false) hq) (.inr hu) h
theorem eqD_str (b : Str) (u : Tok) (hd : DObj s.heap l) (hu : A.units < cLine) : EqAt A s (.ref l) (.str b u) false := fun prog w E Q h => by
  unfold eqBool
  refine wpAny_holding ?_
  refine wpAny_ite_split (fun z => absurd (eq_of_beq z) nofun) (fun _ => ?_)
  exact wpAny_bind (rcD_str b u hd hu prog w E _ (wpAny_truthy_bool h))
theorem eq_strD (b : Str) (u : Tok) (hd : DObj s.heap l) (hu : A.units < cLine) : EqAt A s (.str b u) (.ref l) false := fun prog w E Q h => by
  unfold eqBool
  refine wpAny_holding ?_
  refine wpAny_ite_split (fun z => absurd (eq_of_beq z) nofun) (fun _ => ?_)
  exact wpAny_bind (rc_strD b u hd hu prog w E _ (wpAny_truthy_bool h))
theorem ne_Dlist {b : Addr} {items : Array Value} (hd : DObj s.heap l) (hb : s.heap.IsList b items) : l ≠ b := fun e => by
  subst e
  obtain ⟨es, n, sl, ho⟩ := hd
  obtain ⟨o2, ho2, hc2, _⟩ := hb
  rw [ho] at ho2
  cases ho2
  exact absurd hc2 (by simp)
theorem eqD_list {b : Addr} {items : Array Value} (hd : DObj s.heap l) (hb : s.heap.IsList b items) (hu : A.units < cLine) : EqAt A s (.ref l) (.ref b) false := .of_refs (ne_Dlist hd hb) fun prog w E Q h => by
  have hne := ne_Dlist hd hb
  obtain ⟨⟨cls2, dd2, data2, sl2⟩, ho2, hc2, n2, hd2⟩ := id hb
  simp only at hc2 hd2
  subst hc2 hd2
  obtain ⟨es, n, sl, ho⟩ := id hd
  exact rc_eq_decline_or (k := false) (dobj_ty hd) ⟨_, ho2, rfl⟩ (by decide) PySem.F.sub_list_dict PySem.F.slot_dict_eq PySem.F.slot_list_eq_refl
    (fun _ hq => call_meets PySem.F.slot_dict_eq (dobj_ty hd) PySem.F.entry_dict_eq (PySem.F.args_dict_eq_2 _ _) (dictEq_seq l b "list" items n2 dd2 sl2 (.inl rfl)) ⟨hd, ho2, hq⟩)
    (fun _ hq => call_meets PySem.F.slot_list_eq_refl ⟨_, ho2, rfl⟩ PySem.F.entry_list_eq (PySem.F.args_list_eq_2 _ _) (listEq_dict l b items n2 dd2 sl2) ⟨hd, ho2, hq⟩)
    (fun _ hq => wpAny_isSame_ref_other hne ho ho2 (by simp) hq) (.inr hu) h
theorem eq_listD {b : Addr} {items : Array Value} (hd : DObj s.heap l) (hb : s.heap.IsList b items) (hu : A.units < cLine) : EqAt A s (.ref b) (.ref l) false := .of_refs (ne_Dlist hd hb).symm fun prog w E Q h => by
  have hne := (ne_Dlist hd hb).symm
  obtain ⟨⟨cls2, dd2, data2, sl2⟩, ho2, hc2, n2, hd2⟩ := id hb
  simp only at hc2 hd2
  subst hc2 hd2
  obtain ⟨es, n, sl, ho⟩ := id hd
  exact rc_eq_decline_or (k := false) ⟨_, ho2, rfl⟩ (dobj_ty hd) (by decide) PySem.F.sub_dict_list PySem.F.slot_list_eq PySem.F.slot_dict_eq_refl
    (fun _ hq => call_meets PySem.F.slot_list_eq ⟨_, ho2, rfl⟩ PySem.F.entry_list_eq (PySem.F.args_list_eq_2 _ _) (listEq_dict l b items n2 dd2 sl2) ⟨hd, ho2, hq⟩)
    (fun _ hq => call_meets PySem.F.slot_dict_eq_refl (dobj_ty hd) PySem.F.entry_dict_eq (PySem.F.args_dict_eq_2 _ _) (dictEq_seq l b "list" items n2 dd2 sl2 (.inl rfl)) ⟨hd, ho2, hq⟩)
    (fun _ hq => wpAny_isSame_ref_other' hne ho2 ho (by simp) hq) (.inr hu) h
theorem ne_Dtuple {b : Addr} {items : Array Value} (hd : DObj s.heap l) (hb : s.heap.IsTuple b items) : l ≠ b := fun e => by
  subst e
  obtain ⟨es, n, sl, ho⟩ := hd
  obtain ⟨o2, ho2, hc2, _⟩ := hb
  rw [ho] at ho2
  cases ho2
  exact absurd hc2 (by simp)
theorem eqD_tuple {b : Addr} {items : Array Value} (hd : DObj s.heap l) (hb : s.heap.IsTuple b items) (hu : A.units < cLine) : EqAt A s (.ref l) (.ref b) false := .of_refs (ne_Dtuple hd hb) fun prog w E Q h => by
  have hne := ne_Dtuple hd hb
  obtain ⟨⟨cls2, dd2, data2, sl2⟩, ho2, hc2, n2, hd2⟩ := id hb
  simp only at hc2 hd2
  subst hc2 hd2
  obtain ⟨es, n, sl, ho⟩ := id hd
  exact rc_eq_decline_or (k := false) (dobj_ty hd) ⟨_, ho2, rfl⟩ (by decide) PySem.F.sub_tuple_dict PySem.F.slot_dict_eq PySem.F.slot_tuple_eq_refl
    (fun _ hq => call_meets PySem.F.slot_dict_eq (dobj_ty hd) PySem.F.entry_dict_eq (PySem.F.args_dict_eq_2 _ _) (dictEq_seq l b "tuple" items n2 dd2 sl2 (.inr rfl)) ⟨hd, ho2, hq⟩)
    (fun _ hq => call_meets PySem.F.slot_tuple_eq_refl ⟨_, ho2, rfl⟩ PySem.F.entry_tuple_eq (PySem.F.args_tuple_eq_2 _ _) (tupleEq_dict l b items n2 dd2 sl2) ⟨hd, ho2, hq⟩)
    (fun _ hq => wpAny_isSame_ref_other hne ho ho2 (by simp) hq) (.inr hu) h
theorem eq_tupleD {b : Addr} {items : Array Value} (hd : DObj s.heap l) (hb : s.heap.IsTuple b items) (hu : A.units < cLine) : EqAt A s (.ref b) (.ref l) false := .of_refs (ne_Dtuple hd hb).symm fun prog w E Q h => by
  have hne := (ne_Dtuple hd hb).symm
  obtain ⟨⟨cls2, dd2, data2, sl2⟩, ho2, hc2, n2, hd2⟩ := id hb
  simp only at hc2 hd2
  subst hc2 hd2
  obtain ⟨es, n, sl, ho⟩ := id hd
  exact rc_eq_decline_or (k := false) ⟨_, ho2, rfl⟩ (dobj_ty hd) (by decide) PySem.F.sub_dict_tuple PySem.F.slot_tuple_eq PySem.F.slot_dict_eq_refl
    (fun _ hq => call_meets PySem.F.slot_tuple_eq ⟨_, ho2, rfl⟩ PySem.F.entry_tuple_eq (PySem.F.args_tuple_eq_2 _ _) (tupleEq_dict l b items n2 dd2 sl2) ⟨hd, ho2, hq⟩)
    (fun _ hq => call_meets PySem.F.slot_dict_eq_refl (dobj_ty hd) PySem.F.entry_dict_eq (PySem.F.args_dict_eq_2 _ _) (dictEq_seq l b "tuple" items n2 dd2 sl2 (.inr rfl)) ⟨hd, ho2, hq⟩)
    (fun _ hq => wpAny_isSame_ref_other' hne ho2 ho (by simp) hq) (.inr hu) h
end
/-! ### any two things of known kinds -/
/-- v and x can be told apart, or are one -/
def Apart (H : Hp) (v x : V) : Prop := ∃ T U, Kn H v T ∧ Kn H x U ∧ (v = x ∨ (flatV v = true ∧ flatV x = true) ∨ T ≠ U)
theorem eqV_refl : ∀ {x : V}, flatV x = true → eqV x x = true
  | .non, _ => rfl
  | .bl b, _ => by show (b == b) = true; simp
  | .int i, _ => by show (i == i) = true; simp
  | .str z, _ => by show (z == z) = true; exact beq_self_eq_true z
theorem kn_val {X : Cx} {pins : List (Addr × Obj)} {σ : L2.St} {H : Hp} {s : Shared} (I : Inv X pins σ H s) {v : V} {T : String} (k : Kn H v T) {u : Value} (r : RelV v u) :
    (flatV v = true) ∨ (∃ a its, u = .ref a ∧ v = .ref a ∧ T = "list" ∧ s.heap.IsList a its) ∨ (∃ a its, u = .ref a ∧ v = .ref a ∧ T = "tuple" ∧ s.heap.IsTuple a its) ∨ ∃ a, u = .ref a ∧ v = .ref a ∧ T = "dict" ∧ DObj s.heap a := by
  cases k with
  | non => exact .inl rfl
  | bl b => exact .inl rfl
  | int i => exact .inl rfl
  | str z => exact .inl rfl
  | @lst a xs e =>
    cases r
    obtain ⟨its, rv, p, _⟩ := I.list (SqL.of e)
    exact .inr (.inl ⟨a, _, rfl, rfl, rfl, p.isList⟩)
  | @tup a xs e =>
    cases r
    obtain ⟨its, rv, p, _⟩ := I.tuple (SqT.of e)
    exact .inr (.inr (.inl ⟨a, _, rfl, rfl, rfl, p⟩))
  | @dK a kvs e =>
    cases r
    obtain ⟨o, es, n, h1, h2, h3⟩ := dK_obj I e
    obtain ⟨oc, od, dt, sl⟩ := o
    obtain ⟨e1, e2, e3⟩ := h2
    simp only at e1 e2 e3 h3
    subst e1 e2 e3 h3
    exact .inr (.inr (.inr ⟨a, rfl, rfl, rfl, es, n, _, h1⟩))
theorem eq_some {X : Cx} {pins : List (Addr × Obj)} {σ : L2.St} {H : Hp} {s : Shared} {A : Around} (hu : A.units < cLine) (I : Inv X pins σ H s) {v x : V} (ap : Apart H v x) {u z : Value} (rv : RelV v u) (rx : RelV x z) :
    ∃ b, EqAt A s u z b ∧ (v = x → b = true) := by
  by_cases fx : flatV x = true
  · by_cases fv : flatV v = true
    · refine ⟨eqV v x, eqAt_V rv rx fv fx, fun e => ?_⟩
      subst e; exact eqV_refl fv
    · have ne : v ≠ x := fun e => fv (e ▸ fx)
      refine ⟨false, ?_, fun e => absurd e ne⟩
      obtain ⟨T, U, kv, kx, _⟩ := ap
      rcases kn_val I kv rv with h | ⟨a, its, rfl, _, _, hl⟩ | ⟨a, its, rfl, _, _, hl⟩ | ⟨a, rfl, _, _, hd⟩
      · exact absurd h fv
      · cases kx with
        | non => cases rx; exact EqAt.list_none hl hu
        | bl b => cases rx; exact EqAt.list_bool b hl hu
        | int i => obtain ⟨t, rfl⟩ := rx; exact EqAt.list_int i t hl hu
        | str y => obtain ⟨t, rfl⟩ := rx; exact EqAt.list_str y t hl hu
        | _ => exact absurd fx (fun z => nomatch z)
      · cases kx with
        | non => cases rx; exact EqAt.tuple_none hl hu
        | bl b => cases rx; exact EqAt.tuple_bool b hl hu
        | int i => obtain ⟨t, rfl⟩ := rx; exact EqAt.tuple_int i t hl hu
        | str y => obtain ⟨t, rfl⟩ := rx; exact EqAt.tuple_str y t hl hu
        | _ => exact absurd fx (fun z => nomatch z)
      · cases kx with
        | non => cases rx; exact eqD_none hd hu
        | bl b => cases rx; exact eqD_bool b hd hu
        | int i => obtain ⟨t, rfl⟩ := rx; exact eqD_int i t hd hu
        | str y => obtain ⟨t, rfl⟩ := rx; exact eqD_str y t hd hu
        | _ => exact absurd fx (fun z => nomatch z)
  · by_cases e : v = x
    · subst e
      have same : u = z := by
        obtain ⟨_, U, _, kx, _⟩ := ap
        cases kx with
        | non => exact absurd rfl fx
        | bl b => exact absurd rfl fx
        | int i => exact absurd rfl fx
        | str y => exact absurd rfl fx
        | lst ev => cases rv; cases rx; rfl
        | tup ev => cases rv; cases rx; rfl
        | dK ev => cases rv; cases rx; rfl
      subst same
      exact ⟨true, EqAt.same _, fun _ => rfl⟩
    refine ⟨false, ?_, fun z => absurd z e⟩
    obtain ⟨T, U, kv, kx, h⟩ := ap
    have hTU : T ≠ U ∨ flatV v = true := h.elim (fun z => absurd z e) fun z => z.elim (fun z => .inr z.1) .inl
    rcases kn_val I kx rx with h | ⟨b, its2, rfl, _, rfl, hl2⟩ | ⟨b, its2, rfl, _, rfl, hl2⟩ | ⟨b, rfl, _, rfl, hd2⟩
    · exact absurd h fx
    · cases kv with
      | non => cases rv; exact EqAt.none_list hl2 hu
      | bl b => cases rv; exact EqAt.bool_list b hl2 hu
      | int i => obtain ⟨t, rfl⟩ := rv; exact EqAt.int_list i t hl2 hu
      | str y => obtain ⟨t, rfl⟩ := rv; exact EqAt.str_list y t hl2 hu
      | lst ev => exact absurd rfl (hTU.resolve_right (fun z => nomatch z))
      | tup ev =>
        cases rv
        obtain ⟨its, _, p, _⟩ := I.tuple (SqT.of ev)
        exact EqAt.tuple_list p hl2 hu
      | dK ev =>
        rcases kn_val I (.dK ev) rv with h | ⟨_, _, _, _, h, _⟩ | ⟨_, _, _, _, h, _⟩ | ⟨a, rfl, _, _, hd⟩
        · first | exact absurd h (by decide) | exact absurd h (fun z => nomatch z)
        · first | exact absurd h (by decide) | exact absurd h (fun z => nomatch z)
        · first | exact absurd h (by decide) | exact absurd h (fun z => nomatch z)
        · exact eqD_list hd hl2 hu
    · cases kv with
      | non => cases rv; exact EqAt.none_tuple hl2 hu
      | bl b => cases rv; exact EqAt.bool_tuple b hl2 hu
      | int i => obtain ⟨t, rfl⟩ := rv; exact EqAt.int_tuple i t hl2 hu
      | str y => obtain ⟨t, rfl⟩ := rv; exact EqAt.str_tuple y t hl2 hu
      | tup ev => exact absurd rfl (hTU.resolve_right (fun z => nomatch z))
      | lst ev =>
        cases rv
        obtain ⟨its, _, p, _⟩ := I.list (SqL.of ev)
        exact EqAt.list_tuple p.isList hl2 hu
      | dK ev =>
        rcases kn_val I (.dK ev) rv with h | ⟨_, _, _, _, h, _⟩ | ⟨_, _, _, _, h, _⟩ | ⟨a, rfl, _, _, hd⟩
        · first | exact absurd h (by decide) | exact absurd h (fun z => nomatch z)
        · first | exact absurd h (by decide) | exact absurd h (fun z => nomatch z)
        · first | exact absurd h (by decide) | exact absurd h (fun z => nomatch z)
        · exact eqD_tuple hd hl2 hu
    · cases kv with
      | non => cases rv; exact eq_noneD hd2 hu
      | bl b => cases rv; exact eq_boolD b hd2 hu
      | int i => obtain ⟨t, rfl⟩ := rv; exact eq_intD i t hd2 hu
      | str y => obtain ⟨t, rfl⟩ := rv; exact eq_strD y t hd2 hu
      | dK ev => exact absurd rfl (hTU.resolve_right (fun z => nomatch z))
      | lst ev =>
        cases rv
        obtain ⟨its, _, p, _⟩ := I.list (SqL.of ev)
        exact eq_listD hd2 p.isList hu
      | tup ev =>
        cases rv
        obtain ⟨its, _, p, _⟩ := I.tuple (SqT.of ev)
        exact eq_tupleD hd2 p hu
/-- what == tells of u and z, if anything -/
noncomputable def tellEq (A : Around) (s : Shared) (z u : Value) : Bool := @decide (EqAt A s u z true) (Classical.propDecidable _)
theorem tellEq_ok {A : Around} {s : Shared} {u z : Value} (h : ∃ b, EqAt A s u z b) : EqAt A s u z (tellEq A s z u) := by
  unfold tellEq
  by_cases e : EqAt A s u z true
  · rw [@decide_eq_true _ (Classical.propDecidable _) e]; exact e
  · rw [@decide_eq_false _ (Classical.propDecidable _) e]
    obtain ⟨b, hb⟩ := h
    cases b with
    | true => exact absurd hb e
    | false => exact hb
theorem tellEq_true {A : Around} {s : Shared} {u z : Value} (h : EqAt A s u z true) : tellEq A s z u = true := @decide_eq_true _ (Classical.propDecidable _) h
/-- x in a list or tuple of such things: found, if it is one of them -/
def rInA (K : PySem.W.Frag) : R2 := fun x y H Q => ∃ p xs, y = .ref p ∧ (SqL K H p xs ∨ SqT K H p xs) ∧ (∀ v ∈ xs, Apart H v x) ∧ ∀ b, (x ∈ xs → b = true) → Q (.bl b) H
theorem vals_mem : ∀ {xs : List V} {us : List Value}, Vals xs us → ∀ u ∈ us, ∃ v ∈ xs, RelV v u
  | _, _, .nil => fun u hu => by cases hu
  | _, _, .cons r t => fun u hu => by
    rcases List.mem_cons.mp hu with rfl | hu
    · exact ⟨_, List.mem_cons_self .., r⟩
    · obtain ⟨v, hv, rv⟩ := vals_mem t u hu
      exact ⟨v, List.mem_cons_of_mem _ hv, rv⟩
theorem vals_mem' : ∀ {xs : List V} {us : List Value}, Vals xs us → ∀ v ∈ xs, ∃ u ∈ us, RelV v u
  | _, _, .nil => fun u hu => by cases hu
  | _, _, .cons r t => fun u hu => by
    rcases List.mem_cons.mp hu with rfl | hu
    · exact ⟨_, List.mem_cons_self .., r⟩
    · obtain ⟨v, hv, rv⟩ := vals_mem' t u hu
      exact ⟨v, List.mem_cons_of_mem _ hv, rv⟩
theorem op_inA {X : Cx} (hu : X.A.units + 1 < cLine) : OpR X (compareOp .In) (rInA X.K) := by
  intro pins s σ H x y v u Q I rx ry h
  obtain ⟨p, xs, rfl, hq, ap, q⟩ := h
  cases ry
  have hu' : X.A.in1.units < cLine := by show X.A.units + 1 < cLine; exact hu
  have all : ∀ {its : List Value}, Vals xs its → ∀ w ∈ its, EqAt X.A.in1 s w v (tellEq X.A.in1 s v w) := fun r w hw => by
    obtain ⟨y, hy, ry⟩ := vals_mem r w hw
    obtain ⟨b, hb, _⟩ := eq_some hu' I (ap y hy) ry rx
    exact tellEq_ok ⟨b, hb⟩
  have some_ : ∀ {its : List Value}, Vals xs its → x ∈ xs → its.any (tellEq X.A.in1 s v) = true := fun r hx => by
    obtain ⟨w, hw, rw_⟩ := vals_mem' r x hx
    obtain ⟨b, hb, e⟩ := eq_some hu' I (by obtain ⟨_, U, _, kx, _⟩ := ap x hx; exact ⟨U, U, kx, kx, .inl rfl⟩ : Apart H x x) rw_ rx
    rw [e rfl] at hb
    exact List.any_eq_true.mpr ⟨w, hw, tellEq_true hb⟩
  rcases hq with hq | hq
  · obtain ⟨its, r, pl, hz⟩ := I.list hq
    refine SeqAt.in_listAt (tellEq X.A.in1 s v) pl.isList (fun w hw => all r w (by simpa using hw)) ⟨.bl _, H, I, rfl, ?_⟩
    exact q _ fun hx => by
      have := some_ r hx
      simpa using this
  · obtain ⟨its, r, pl, hz⟩ := I.tuple hq
    refine SeqAt.in_tupleAt (tellEq X.A.in1 s v) pl (fun w hw => all r w (by simpa using hw)) ⟨.bl _, H, I, rfl, ?_⟩
    exact q _ fun hx => by
      have := some_ r hx
      simpa using this
end N0

/-! B37: what is refused; a great tree. -/
namespace N0
open PySem PySem.Spec PyProof.Rows L2 L2H
/-- one of several suites, by what is held -/
def tE {ι : Type} (p : ι → Prop) (t : ι → TS) : TS := fun D σ H => ∃ i, p i ∧ t i D σ H
theorem pss_E {X : Cx} {ι : Type} {p : ι → Prop} {b : List Stmt} {t : ι → TS} (h : ∀ i, p i → PSs X b (t i)) : PSs X b (tE p t) := ⟨fun pins s σ H D I ⟨i, hp, hw⟩ => (h i hp).run pins s σ H D I hw⟩
/-! ### promises -/
def kindOf (CW CM CF : Addr) : Nat → Addr
  | 0 => CW
  | 1 => CM
  | _ => CF
def bitsOf : Nat → List Bool
  | 0 => [true, false, false, false]
  | 1 => [false, false, true, false]
  | _ => [false, false, false, true]
def noBits : List Bool := [false, false, false, false]
def spTwo8 (CW T : Addr) : Sp := fun vs H Q E => ∃ (c : Nat) (x y : V) (U V : String), vs = [.int (c : Nat), x, y] ∧ c < 3 ∧ Kn H x U ∧ Sh x ∧ Kn H y V ∧ Tb H T ∧ (wordB x = true → ∀ v H', Same H H' → Q v H') ∧ (wordB x = false → ∀ H', Same H H' → E (.ref CW) none H')
section
variable (CN CT : Addr)
/-- where nothing is refused -/
structure OkC (c : Nat) (t : Addr) (x y : V) (W : List (List Nat)) (F : Addr → Prop) (H : Hp) (R : Hp → Prop) : Prop where
  look : wordB x = true → 1 ≤ c → c ≤ 7 → (c = 6 ∨ c = 7 → okP 25 y = true) → ∀ H', Same H H' → R H'
  take : c = 0 → wordB x = true → ∀ W' H', Off F H H' → TreeV CN CT H' t W' F → R H'
  putO : c = 8 → ∀ l, x = .str (mkS l) → Wd l → l.length ≤ 24 → l ∈ W → ∀ H', Same H H' → R H'
  putN : c = 8 → ∀ l, x = .str (mkS l) → Wd l → l.length ≤ 24 → l ∉ W → W.length < 400 → ∀ H' F', Off F H H' → TreeV CN CT H' t (W ++ [l]) F' → (∀ y, F' y → F y ∨ H y = none) → R H'
/-- where something is -/
structure BadC (c : Nat) (x y : V) (W : List (List Nat)) (H : Hp) (R : Nat → Hp → Prop) : Prop where
  word : wordB x = false → ∀ H', Same H H' → R 0 H'
  most : wordB x = true → c = 6 ∨ c = 7 → okP 25 y = false → ∀ H', Same H H' → R 1 H'
  full : c = 8 → ∀ l, x = .str (mkS l) → Wd l → l.length ≤ 24 → l ∉ W → 400 ≤ W.length → ∀ H', Same H H' → R 2 H'
variable (CW CM CF T : Addr)
def spCalled : Sp := fun vs H Q E => ∃ (c : Nat) (t : Addr) (x y : V) (X Y : String) (W : List (List Nat)) (F : Addr → Prop), vs = [.int (c : Nat), .ref t, x, y] ∧ c ≤ 8 ∧ Kn H x X ∧ Sh x ∧ Kn H y Y ∧ Tb H T ∧ TreeV CN CT H t W F ∧ W.length ≤ 400 ∧
  OkC CN CT c t x y W F H (fun H' => ∀ v, Q v H') ∧ BadC c x y W H fun k H' => E (.ref (kindOf CW CM CF k)) none H'
def spRefused : Sp := fun vs H Q _ => ∃ (c : Nat) (t : Addr) (x y : V) (X Y : String) (W : List (List Nat)) (F : Addr → Prop), vs = [.int (c : Nat), .ref t, x, y] ∧ c ≤ 8 ∧ Kn H x X ∧ Sh x ∧ Kn H y Y ∧ Tb H T ∧ TreeV CN CT H t W F ∧ W.length ≤ 400 ∧
  OkC CN CT c t x y W F H (fun H' => ∀ p H2, Same H' H2 → H2 p = some (.lst (noBits.map V.bl)) → Q (.ref p) H2) ∧ BadC c x y W H fun k H' => ∀ p H2, Same H' H2 → H2 p = some (.lst ((bitsOf k).map V.bl)) → Q (.ref p) H2
end
theorem apart_flat {H : Hp} {v y : V} {A B : String} (kv : Kn H v A) (fv : flatV v = true) (ky : Kn H y B) : Apart H v y := by
  by_cases fy : flatV y = true
  · exact ⟨A, B, kv, ky, .inr (.inl ⟨fv, fy⟩)⟩
  · refine ⟨A, B, kv, ky, .inr (.inr ?_)⟩
    have hB : B = "list" ∨ B = "tuple" ∨ B = "dict" := by
      cases ky with
      | lst e => exact .inl rfl
      | tup e => exact .inr (.inl rfl)
      | dK e => exact .inr (.inr rfl)
      | _ => exact absurd rfl fy
    cases kv with
    | lst e => exact absurd fv (fun z => nomatch z)
    | tup e => exact absurd fv (fun z => nomatch z)
    | dK e => exact absurd fv (fun z => nomatch z)
    | _ => rcases hB with rfl | rfl | rfl <;> decide
theorem apart_ints {H : Hp} {y : V} {B : String} (ky : Kn H y B) (ns : List Int) : ∀ v ∈ ns.map V.int, Apart H v y := fun v hv => by
  obtain ⟨n, _, rfl⟩ := List.mem_map.mp hv
  exact apart_flat (.int n) rfl ky
theorem dat_bl {K : PySem.W.Frag} {H : Hp} {b : Bool} {k : Nat} : Dat K H (.bl b) k := ⟨.bool b, .bl b, by simp [PyData.canLay0], by simp [PyData.depth]⟩
theorem dat_bits {K : PySem.W.Frag} {H : Hp} (bs : List Bool) : ∀ v ∈ bs.map V.bl, Dat K H v 20 := fun v hv => by
  obtain ⟨b, _, rfl⟩ := List.mem_map.mp hv
  exact dat_bl
/-! ### a great tree -/
def pairW (k : Nat) : List Nat := [97 + k / 26, 97 + k % 26]
def pairs (n : Nat) : List (List Nat) := (List.range n).map pairW
def zzW : List Nat := [122, 122, 122, 122]
def zzs (n : Nat) : List (List Nat) := if n < 400 then [zzW] else []
theorem pairW_lt {i j : Nat} (h : i < j) : pairW i < pairW j := by
  unfold pairW
  by_cases e : i / 26 = j / 26
  · have h2 : i % 26 < j % 26 := by omega
    rw [e]
    exact lt_side [97 + j / 26] (by omega) [] []
  · exact lt_side [] (by omega) _ _
theorem pairs_up (n : Nat) : (pairs n).Pairwise (· < ·) := List.pairwise_map.mpr (List.pairwise_lt_range.imp pairW_lt)
theorem pairs_len (n : Nat) : (pairs n).length = n := by simp [pairs]
theorem pairs_mem {n : Nat} {w : List Nat} : w ∈ pairs n ↔ ∃ k, k < n ∧ w = pairW k := by
  unfold pairs
  rw [List.mem_map]
  exact ⟨fun ⟨k, h1, h2⟩ => ⟨k, List.mem_range.mp h1, h2.symm⟩, fun ⟨k, h1, h2⟩ => ⟨k, List.mem_range.mpr h1, h2.symm⟩⟩
theorem pairs_snoc (n : Nat) : pairs (n + 1) = pairs n ++ [pairW n] := by unfold pairs; rw [List.range_succ, List.map_append]; rfl
theorem pairW_wd {k : Nat} (h : k < 676) : Wd (pairW k) := fun c hc => by
  unfold pairW at hc
  simp only [List.mem_cons, List.not_mem_nil, or_false] at hc
  show 97 ≤ c ∧ c ≤ 122
  omega
theorem pairW_new {n : Nat} : pairW n ∉ pairs n := fun h => by
  obtain ⟨k, hk, e⟩ := pairs_mem.mp h
  have := pairW_lt hk
  rw [e] at this
  exact List.lt_irrefl _ this
theorem zz_up {n : Nat} (h : n ≤ 400) : (pairs n ++ zzs n).Pairwise (· < ·) := by
  rw [List.pairwise_append]
  refine ⟨pairs_up n, ?_, fun a ha b hb => ?_⟩
  · unfold zzs; split <;> simp
  · obtain ⟨k, hk, rfl⟩ := pairs_mem.mp ha
    have e : b = zzW := by
      unfold zzs at hb
      split at hb
      · exact List.mem_singleton.mp hb
      · cases hb
    subst e
    exact lt_side [] (by omega) _ _
/-! ### near aa -/
abbrev aaW : List Nat := [97, 97]
theorem lev_aa (x y : Nat) : Lv.lev aaW [x, y] = (if 97 = x then 0 else 1) + (if 97 = y then 0 else 1) := by
  have e1 : Lv.lev [97] [y] = if 97 = y then 0 else 1 := by
    rw [Lv.lev_cc, Lv.lev_nil_left, Lv.lev_nil_left, Lv.lev_nil_right]
    simp only [List.length_nil, List.length_cons]
    split <;> omega
  have e2 : Lv.lev [97] [x, y] = min (1 + if 97 = x then 0 else 1) ((if 97 = y then 0 else 1) + 1) := by
    rw [Lv.lev_cc, e1, Lv.lev_nil_left, Lv.lev_nil_left]
    simp only [List.length_nil, List.length_cons]
    split <;> split <;> omega
  have e3 : Lv.lev [97, 97] [y] = (if 97 = y then 0 else 1) + 1 := by
    rw [Lv.lev_cc, e1, Lv.lev_nil_right, Lv.lev_nil_right]
    simp only [List.length_nil, List.length_cons]
    split <;> omega
  show Lv.lev [97, 97] [x, y] = _
  rw [Lv.lev_cc, e1, e2, e3]
  split <;> split <;> omega
theorem lev_zz : Lv.lev aaW zzW = 4 := by
  have h1 := (Lv.lev_len aaW zzW).2
  have h2 := Lv.lev_most aaW zzW
  have e : ∀ a b : List Nat, Lv.lev a b = Lv.lev a b := fun _ _ => rfl
  unfold zzW aaW
  simp only [Lv.lev_cc, Lv.lev_nil_left, Lv.lev_nil_right, List.length_cons, List.length_nil]
  decide
theorem mem_pairW {k : Nat} : 97 ∈ pairW k ↔ (97 = 97 + k / 26 ∨ 97 = 97 + k % 26) := by
  unfold pairW; simp only [List.mem_cons, List.not_mem_nil, or_false]
theorem pairW_aa {k : Nat} : pairW k = aaW ↔ k = 0 := by
  unfold pairW
  constructor
  · intro h
    injection h with h1 h2
    injection h2 with h2 _
    omega
  · rintro rfl; rfl
theorem lev_pair {k : Nat} : Lv.lev aaW (pairW k) = (if 97 = 97 + k / 26 then 0 else 1) + (if 97 = 97 + k % 26 then 0 else 1) := lev_aa _ _
def oneB (w : List Nat) : Bool := decide (97 ∈ w) && !decide (w = aaW)
def twoB (w : List Nat) : Bool := !decide (97 ∈ w)
def due1 (n : Nat) : List (List Nat) := [aaW] ++ (pairs n).filter oneB
def due2 (n : Nat) : List (List Nat) := due1 n ++ (pairs n).filter twoB
theorem one_lev {n : Nat} {w : List Nat} (h : w ∈ (pairs n).filter oneB) : Lv.lev aaW w = 1 := by
  obtain ⟨h1, h2⟩ := List.mem_filter.mp h
  obtain ⟨k, hk, rfl⟩ := pairs_mem.mp h1
  unfold oneB at h2
  rw [Bool.and_eq_true, decide_eq_true_iff, mem_pairW, Bool.not_eq_true', decide_eq_false_iff_not, pairW_aa] at h2
  rw [lev_pair]
  split <;> split <;> omega
theorem two_lev {n : Nat} {w : List Nat} (h : w ∈ (pairs n).filter twoB) : Lv.lev aaW w = 2 := by
  obtain ⟨h1, h2⟩ := List.mem_filter.mp h
  obtain ⟨k, hk, rfl⟩ := pairs_mem.mp h1
  unfold twoB at h2
  rw [Bool.not_eq_true', decide_eq_false_iff_not, mem_pairW] at h2
  rw [lev_pair]
  split <;> split <;> omega
theorem same_up {n m : Nat} {f : List Nat → Bool} (h : ∀ w ∈ (pairs n).filter f, Lv.lev aaW w = m) : ((pairs n).filter f).Pairwise (nearLt aaW) := by
  refine List.Pairwise.imp_of_mem (fun {a b} ha hb hab => ?_) ((pairs_up n).filter f)
  exact .inr ⟨by rw [h a ha, h b hb], hab⟩
theorem due1_up (n : Nat) : (due1 n).Pairwise (nearLt aaW) := by
  unfold due1
  rw [List.pairwise_append]
  refine ⟨by simp, same_up fun w h => one_lev h, fun a ha b hb => .inl ?_⟩
  rw [List.mem_singleton.mp ha, Lv.lev_self, one_lev hb]; decide
theorem due1_lev {n : Nat} {w : List Nat} (h : w ∈ due1 n) : Lv.lev aaW w ≤ 1 := by
  rcases List.mem_append.mp h with h | h
  · rw [List.mem_singleton.mp h, Lv.lev_self]; decide
  · rw [one_lev h]; decide
theorem due2_up (n : Nat) : (due2 n).Pairwise (nearLt aaW) := by
  unfold due2
  rw [List.pairwise_append]
  refine ⟨due1_up n, same_up fun w h => two_lev h, fun a ha b hb => .inl ?_⟩
  have := due1_lev ha
  rw [two_lev hb]; omega
theorem near1 {n : Nat} {W : List (List Nat)} (h0 : 0 < n) (sw : SameW W (pairs n ++ zzs n)) : NearW W 1 aaW (due1 n) := by
  refine ⟨due1_up n, fun w => ⟨fun h => ⟨(sw w).mpr (List.mem_append_left _ ?_), due1_lev h⟩, fun ⟨h1, h2⟩ => ?_⟩⟩
  · rcases List.mem_append.mp h with h | h
    · rw [List.mem_singleton.mp h]; exact pairs_mem.mpr ⟨0, h0, rfl⟩
    · exact (List.mem_filter.mp h).1
  · rcases List.mem_append.mp ((sw w).mp h1) with h | h
    · by_cases e : w = aaW
      · exact List.mem_append_left _ (List.mem_singleton.mpr e)
      · refine List.mem_append_right _ (List.mem_filter.mpr ⟨h, ?_⟩)
        obtain ⟨k, hk, rfl⟩ := pairs_mem.mp h
        unfold oneB
        rw [Bool.and_eq_true, decide_eq_true_iff, mem_pairW, Bool.not_eq_true', decide_eq_false_iff_not]
        refine ⟨?_, e⟩
        rw [lev_pair] at h2
        by_cases a : 97 = 97 + k / 26
        · exact .inl a
        · rw [if_neg a] at h2
          by_cases b : 97 = 97 + k % 26
          · exact .inr b
          · rw [if_neg b] at h2; omega
    · exfalso
      unfold zzs at h
      split at h
      · rw [List.mem_singleton.mp h, lev_zz] at h2; omega
      · cases h
theorem near2 {n : Nat} {W : List (List Nat)} (h0 : 0 < n) (sw : SameW W (pairs n ++ zzs n)) : NearW W 2 aaW (due2 n) := by
  have n1 := near1 h0 sw
  refine ⟨due2_up n, fun w => ⟨fun h => ?_, fun ⟨h1, h2⟩ => ?_⟩⟩
  · rcases List.mem_append.mp h with h | h
    · obtain ⟨a, b⟩ := (n1.mem w).mp h
      exact ⟨a, by omega⟩
    · exact ⟨(sw w).mpr (List.mem_append_left _ (List.mem_filter.mp h).1), by rw [two_lev h]; omega⟩
  · by_cases e : Lv.lev aaW w ≤ 1
    · exact List.mem_append_left _ ((n1.mem w).mpr ⟨h1, e⟩)
    · rcases List.mem_append.mp ((sw w).mp h1) with h | h
      · refine List.mem_append_right _ (List.mem_filter.mpr ⟨h, ?_⟩)
        obtain ⟨k, hk, rfl⟩ := pairs_mem.mp h
        unfold twoB
        rw [Bool.not_eq_true', decide_eq_false_iff_not, mem_pairW]
        rw [lev_pair] at e
        intro z
        rcases z with z | z
        · rw [if_pos z] at e
          by_cases b : 97 = 97 + k % 26
          · rw [if_pos b] at e; omega
          · rw [if_neg b] at e; omega
        · rw [if_pos z] at e
          by_cases b : 97 = 97 + k / 26
          · rw [if_pos b] at e; omega
          · rw [if_neg b] at e; omega
      · exfalso
        unfold zzs at h
        split at h
        · rw [List.mem_singleton.mp h, lev_zz] at h2; omega
        · cases h
theorem great_begun {n : Nat} {W : List (List Nat)} (h : n ≤ 400) (sw : SameW W (pairs n ++ zzs n)) : Begun W [] (pairs n ++ zzs n) := ⟨zz_up h, fun w => by rw [← sw w]; exact ⟨fun z => ⟨z, List.nil_prefix⟩, fun z => z.1⟩⟩
def spFilled (CN CT T : Addr) : Sp := fun vs H Q _ => ∃ n : Nat, vs = [.int (n : Nat)] ∧ n ≤ 400 ∧ Tb H T ∧ ∀ t W F H', Same H H' → TreeV CN CT H' t W F → SameW W (pairs n) → (∀ y, F y → H y = none) → Q (.ref t) H'
def spGreat (CN CT T : Addr) : Sp := fun vs H Q _ => ∃ (t : Addr) (n : Nat) (b : Bool) (W : List (List Nat)) (F : Addr → Prop), vs = [.ref t, .int (n : Nat), .bl b] ∧ 398 ≤ n ∧ n ≤ 400 ∧ Tb H T ∧ TreeV CN CT H t W F ∧ W.length ≤ 400 ∧ SameW W (pairs n ++ zzs n) ∧ ∀ H', Same H H' → Q (.bl true) H'
def spFull (K : PySem.W.Frag) (T U : Addr) : Sp := fun vs H Q _ => ∃ (a : Addr) (ns : List Int) (x : V), vs = [.ref a, x] ∧ SqL K H a (ns.map V.int) ∧ Thing H x ∧ Tb H T ∧ Tb H U ∧ ∀ H', Same H H' → Q (.bl true) H'
theorem wd_all {l : List Nat} (h : (l.all fun c => decide (97 ≤ c ∧ c ≤ 122)) = true) : Wd l := fun c hc => of_decide_eq_true (List.all_eq_true.mp h c hc)
/-! ### letters, pairs -/
theorem alpha_nat : ∀ k, k < 26 → alpha[k]? = some (97 + k) := by decide
theorem alpha_q {i : Nat} (h : i < 400) : atI alpha ((i : Int) / 26) = some (97 + i / 26) := by
  rw [show ((i : Int) / 26) = ((i / 26 : Nat) : Int) by omega]
  exact atI_nat (alpha_nat _ (by omega))
theorem alpha_r {i : Nat} : atI alpha ((i : Int) % 26) = some (97 + i % 26) := by
  rw [show ((i : Int) % 26) = ((i % 26 : Nat) : Int) by omega]
  exact atI_nat (alpha_nat _ (by omega))
theorem pairs_nd (n : Nat) : (pairs n).Nodup := up_nodup (pairs_up n)
theorem zz_take {n : Nat} (h : n ≤ 400) : [V.str (mkS zzW)].take (400 - n) = wordsV (zzs n) := by
  unfold zzs
  by_cases e : n < 400
  · rw [if_pos e]
    obtain ⟨k, hk⟩ : ∃ k, 400 - n = k + 1 := ⟨399 - n, by omega⟩
    rw [hk, List.take_succ_cons, List.take_nil]; rfl
  · rw [if_neg e, show 400 - n = 0 by omega]; rfl
/-! ### kinds of the odd ones -/
inductive OddK (a b c : Addr) (v : V) (A : String) : Prop where
  | flat (h : flatV v = true)
  | tup (h : v = .ref a) (k : A = "tuple")
  | lst (h : v = .ref b) (k : A = "list")
  | dic (h : v = .ref c) (k : A = "dict")
theorem flat_kind {H : Hp} {v : V} {A : String} (kv : Kn H v A) (fv : flatV v = true) : A ≠ "list" ∧ A ≠ "tuple" ∧ A ≠ "dict" := by
  cases kv with
  | lst e => exact absurd fv (fun z => nomatch z)
  | tup e => exact absurd fv (fun z => nomatch z)
  | dK e => exact absurd fv (fun z => nomatch z)
  | _ => decide
theorem odd_apart {H : Hp} {a b c : Addr} {v y : V} {A B : String} (kv : Kn H v A) (ky : Kn H y B) (ov : OddK a b c v A) (oy : OddK a b c y B) : Apart H v y := by
  refine ⟨A, B, kv, ky, ?_⟩
  cases ov with
  | flat fv =>
    obtain ⟨n1, n2, n3⟩ := flat_kind kv fv
    cases oy with
    | flat fy => exact .inr (.inl ⟨fv, fy⟩)
    | tup _ e => subst e; exact .inr (.inr n2)
    | lst _ e => subst e; exact .inr (.inr n1)
    | dic _ e => subst e; exact .inr (.inr n3)
  | tup h e =>
    subst h e
    cases oy with
    | flat fy => exact .inr (.inr (flat_kind ky fy).2.1.symm)
    | tup h _ => exact .inl h.symm
    | lst _ e => subst e; exact .inr (.inr (by decide))
    | dic _ e => subst e; exact .inr (.inr (by decide))
  | lst h e =>
    subst h e
    cases oy with
    | flat fy => exact .inr (.inr (flat_kind ky fy).1.symm)
    | tup _ e => subst e; exact .inr (.inr (by decide))
    | lst h _ => exact .inl h.symm
    | dic _ e => subst e; exact .inr (.inr (by decide))
  | dic h e =>
    subst h e
    cases oy with
    | flat fy => exact .inr (.inr (flat_kind ky fy).2.2.symm)
    | tup _ e => subst e; exact .inr (.inr (by decide))
    | lst _ e => subst e; exact .inr (.inr (by decide))
    | dic h _ => exact .inl h.symm
theorem Kn.off {H H' : Hp} {x : V} {A : String} {F : Addr → Prop} (k : Kn H x A) (o : Off F H H') (h : ∀ a, x = .ref a → ¬ F a) : Kn H' x A := by
  cases k with
  | non => exact .non
  | bl b => exact .bl b
  | int i => exact .int i
  | str z => exact .str z
  | lst e => exact .lst (o _ _ e (h _ rfl))
  | tup e => exact .tup (o _ _ e (h _ rfl))
  | dK e => exact .dK (o _ _ e (h _ rfl))
/-- what is due -/
def dueB (x y : V) (j : Nat) : List Bool := if wordB x = false then bitsOf 0 else if (j = 6 ∨ j = 7) ∧ okP 25 y = false then bitsOf 1 else noBits
theorem due_no {x y : V} {j : Nat} (h : wordB x = true) (k : j = 6 ∨ j = 7 → okP 25 y = true) : dueB x y j = noBits := by
  unfold dueB
  rw [if_neg (by rw [h]; decide), if_neg (fun z => by rw [k z.1] at z; exact absurd z.2 (by decide))]
theorem due_word {x y : V} {j : Nat} (h : wordB x = false) : dueB x y j = bitsOf 0 := if_pos h
theorem due_most {x y : V} {j : Nat} (h : wordB x = true) (k : j = 6 ∨ j = 7) (b : okP 25 y = false) : dueB x y j = bitsOf 1 := by
  unfold dueB
  rw [if_neg (by rw [h]; decide), if_pos ⟨k, b⟩]
end N0

/-! B38: set(xs), xs a list, by what the adding of each item does. -/
namespace N0
open PySem PySem.Spec PyProof.Rows L2
/-- a set as it is made -/
abbrev newSet (w : World) : Obj := { cls := .type "set", dict := none, data := .set #[] 0 (.fresh 0 0 (!w.params.followText "set-order")) }
section
variable {P : Program} {w : World} {A : Around} {E : Value → Shared → Prop} {s : Shared}
/-- what adding the item v does to the set at S: the state goes on by one -/
def Adds (P : Program) (w : World) (B : Around) (S : Addr) (b0 : Heap) (J : Nat → Heap → Prop) (i : Nat) (v : Value) : Prop :=
  ∀ (u : Shared) (Q : Bool → Shared → Prop) (E : Value → Shared → Prop), J i u.heap → (∀ b o, b0.get? b = some o → u.heap.get? b = some o) →
    (∀ x h' tk, u.toks ≤ tk → Heap.SameBut S u.heap h' → J (i + 1) h' → Q x { u with heap := h', toks := tk }) → wpAny (model P w) B (setAdd S v) Q E u
/-- the state of a set lies in its object, and in what stood before -/
def Stays (S : Addr) (b0 : Heap) (J : Nat → Heap → Prop) : Prop :=
  ∀ i h h', J i h → (∀ o, h.get? S = some o → h'.get? S = some o) → (∀ b o, b0.get? b = some o → h'.get? b = some o) → J i h'
theorem set_turns {I S : Addr} {fp wr : List Addr} {G : Array GenState → Array GenState → Prop} {n : Nat} {Pv : Nat → Value → Prop} {St : Nat → Shared → Prop} {R : Result → Shared → Prop} {b0 : Heap} {J : Nat → Heap → Prop}
    (walk : WalksS P w A.in1 I fp wr G n Pv St) (out : S ∉ fp) (z1 : b0.get? S = none) (z2 : ∀ b ∈ wr, b0.get? b = none) (stay : Stays S b0 J) (step : ∀ i v, i < n → Pv i v → Adds P w A.in1 S b0 J i v) :
    ∀ (m i : Nat) (u : Shared), i + m = n → St i u → (∀ b o, b0.get? b = some o → u.heap.get? b = some o) → J i u.heap →
      (∀ u', Moved (S :: wr) G u u' → J n u'.heap → (∀ b o, b0.get? b = some o → u'.heap.get? b = some o) → R (.ok (.ret .none)) u') →
      codeAny (model P w) A (.builtin "set.update.loop" ⟨[.ref S, .ref I], []⟩) R u := by
  have outw : S ∉ wr := fun h => out (walk.sub _ h)
  have more : ∀ b ∈ wr, b ∈ S :: wr := fun b h => List.mem_cons_of_mem _ h
  have old : ∀ {x y : Shared}, Moved wr G x y → (∀ b o, b0.get? b = some o → x.heap.get? b = some o) → ∀ b o, b0.get? b = some o → y.heap.get? b = some o :=
    fun mv k b o e => mv.heap b o (fun h => by rw [z2 b h] at e; cases e) (k b o e)
  intro m
  induction m with
  | zero =>
    intro i u hi st0 kept ju fin
    obtain rfl : i = n := by omega
    refine codeAny_builtin F.entry_set_update_loop ?_
    rw [Around.under_plainId F.plain_set_update_loop _]
    show wpAny _ A.in1 (pyNext (.ref I) >>= _) _ _ u
    refine wpAny_bind (walk.done u _ _ st0 fun u' mv => ?_)
    show wpAny _ A.in1 (ret Value.none) _ _ u'
    have kept' := old mv kept
    exact wpAny_pure (fin u' (mv.mono more) (stay i _ _ ju (fun o e => mv.heap S o outw e) kept') kept')
  | succ m ih =>
    intro i u hi st0 kept ju fin
    have hlt : i < n := by omega
    refine codeAny_builtin F.entry_set_update_loop ?_
    rw [Around.under_plainId F.plain_set_update_loop _]
    show wpAny _ A.in1 (pyNext (.ref I) >>= _) _ _ u
    refine wpAny_bind (walk.item i u _ _ hlt st0 fun v u' pv st1 mv => ?_)
    have kept' := old mv kept
    have ju' := stay i _ _ ju (fun o e => mv.heap S o outw e) kept'
    show wpAny _ A.in1 (holding [v] (setAdd S v) >>= _) _ _ u'
    refine wpAny_bind (wpAny_holding (step i v hlt pv u' _ _ ju' kept' fun x h' tk le sb j2 => ?_))
    have kept2 : ∀ b o, b0.get? b = some o → h'.get? b = some o := fun b o e => (sb.2 b (fun z => by rw [z, z1] at e; cases e)).trans (kept' b o e)
    refine wpAny_pure ⟨plainId_quiet F.plain_set_update_loop _, ih (i + 1) _ (by omega) (walk.frame _ u' _ _ st1 le fun b hb o e => ?_) kept2 j2 fun u2 mv2 jn kn => fin u2 (Moved.trans walk.gtrans ((mv.mono more).then_heap le fun b o hb e => ?_) mv2) jn kn⟩
    · rw [sb.2 b fun z : b = S => out (z ▸ hb)]; exact e
    · rw [sb.2 b fun z : b = S => hb (z ▸ List.mem_cons_self)]; exact e
theorem set_of_list {l : Addr} {items : Array Value} {J : Nat → Heap → Prop} {Q : Value → Shared → Prop} (calm : A.handled = none) (isl : s.heap.IsList l items) (stay : Stays s.heap.objs.size s.heap J)
    (zero : ∀ h : Heap, h.get? s.heap.objs.size = some (newSet w) → (∀ b o, s.heap.get? b = some o → h.get? b = some o) → J 0 h)
    (step : ∀ (B : Around) i v, B.units ≤ A.units + 3 → items[i]? = some v → Adds P w B s.heap.objs.size s.heap J i v)
    (fin : ∀ (h' : Heap) (tk : Nat), J items.size h' → (∀ b o, s.heap.get? b = some o → h'.get? b = some o) → Q (.ref s.heap.objs.size) { s with heap := h', toks := tk }) :
    wpAny (model P w) A (call (.type "set") [.ref l]) Q E s := by
  obtain ⟨cx, rest, mro_⟩ := F.called_set.mro
  have made_ := F.called_set.made
  have sub_ := F.called_set.sub
  refine wpAny_call (codeAny_of_tree (show wpAny _ _ (callAny (.type "set") _) _ _ _ from ?_))
  refine wpAny_pure ⟨Code.quiet_builtin _ (by decide +kernel), codeAny_builtin F.entry_type_call ?_⟩
  rw [Around.under_plain (weight_type_call_type "set" [.ref l] []) rfl]
  have nt_ := F.called_set.notType
  have cc_ := F.called_set.canCreate
  have tc_ := F.typeCall_set_1 (.ref l)
  repeat (any_goals (first | assumption | wp_step))
  refine codeAny_mono (code_set_led1 (.ref l) (E := E) (Q₁ := fun ob u => ob = .ref s.heap.objs.size ∧ u = { s with heap := s.heap.push (newSet w) }) ⟨rfl, rfl⟩) fun r u hr => ?_
  match r, hr with
  | .error e, hr => exact hr
  | .ok (.next), hr => exact hr.elim
  | .ok (.brk), hr => exact hr.elim
  | .ok (.cont), hr => exact hr.elim
  | .ok (.ret ob), hr =>
    obtain ⟨rfl, rfl⟩ := hr
    have there : (s.heap.push (newSet w)).get? s.heap.objs.size = some (newSet w) := Heap.get?_push_size _ rfl
    have ty_ : Shared.TypeIs { s with heap := s.heap.push (newSet w) } (.ref s.heap.objs.size) "set" := ⟨_, there, rfl⟩
    have li_ := F.called_set.init.lookup
    have bi_ := F.called_set.init.bind (.ref s.heap.objs.size)
    repeat (any_goals (first | assumption | wp_step))
    refine codeAny_mono (codeAny_call_builtin (R := wants (fun r v => r = .none ∧ ∃ h' tk, v = { s with heap := h', toks := tk } ∧ J items.size h' ∧ ∀ b o, s.heap.get? b = some o → h'.get? b = some o) E) F.called_set.init.plain F.entry_set_init (check_set_init_1 ty_ ?_)) fun r2 u2 hr2 => ?_
    · obtain ⟨⟨oc, od, odt, osl⟩, gl, ec, ne, ed⟩ := isl
      simp only at ec ed
      subst ec; subst ed
      have gl' : (s.heap.push (newSet w)).get? l = some { cls := .type "list", dict := od, data := .seq items ne, slots := osl } := Heap.get?_push_of_some _ gl
      have s1_ := F.sub_list_set
      have s2_ := F.sub_list_frozenset
      have s3_ : (Value.type "list" == Value.type "dict") = false := by decide
      have isl1 : (s.heap.push (newSet w)).IsList l items := ⟨_, gl', rfl, ne, rfl⟩
      unfold Builtin.«set.__init__» noKeywords Builtin.Frozenset.updateFrom
      generalize hIt : pyIter = It0
      wp_walk
      subst hIt
      refine wpAny_pyIter_list isl1 (wpAny_bind (wpAny_runValue ?_))
      have ll : l < s.heap.objs.size := Heap.lt_size gl
      have calm3 : A.in1.in1.in1.handled = none := by simp [calm]
      have sz : (s.heap.push (newSet w)).objs.size = s.heap.objs.size + 1 := Heap.size_push ..
      have lI : l ≠ (s.heap.push (newSet w)).objs.size := by rw [sz]; exact Nat.ne_of_lt (Nat.lt_succ_of_lt ll)
      have out : s.heap.objs.size ∉ [(s.heap.push (newSet w)).objs.size, l] := by
        rw [sz]
        simp only [List.mem_cons, List.not_mem_nil, or_false, not_or]
        exact ⟨Nat.ne_of_lt (Nat.lt_succ_self _), Nat.ne_of_gt ll⟩
      have none_ : ∀ b, s.heap.objs.size ≤ b → s.heap.get? b = none := fun b hb => by
        cases q : s.heap.get? b with
        | none => rfl
        | some o => exact absurd (Nat.lt_of_lt_of_le (Heap.lt_size q) hb) (Nat.lt_irrefl _)
      refine set_turns ((Walks.list calm3 _ l lI items).toS) out (none_ _ (Nat.le_refl _)) (fun b hb => none_ b (by rw [List.mem_singleton.mp hb, sz]; exact Nat.le_succ _)) stay (fun i v _ hv => step _ i v (by show A.units + 3 ≤ _; omega) hv) items.size 0 _ (by omega)
        ⟨⟨_, Heap.get?_push_size _ rfl, rfl, rfl⟩, (isl1.push _)⟩ (fun b o e => Heap.get?_push_of_some _ (Heap.get?_push_of_some _ e)) ?_ ?_
      · exact zero _ (Heap.get?_push_of_some _ there) fun b o e => Heap.get?_push_of_some _ (Heap.get?_push_of_some _ e)
      · intro u' mv jn kn
        obtain ⟨h', g2, d2, t2, o2⟩ := u'
        obtain rfl : g2 = s.gens := mv.gens
        obtain rfl : d2 = s.drawn := mv.drawn
        obtain rfl : o2 = s.os := mv.os
        show wpAny _ _ _ _ _ _
        refine wpAny_pure ?_
        show wpAny _ _ (ret Value.none) _ _ _
        exact wpAny_pure ⟨rfl, h', t2, rfl, jn, kn⟩
    · match r2, hr2 with
      | .error e, hr2 => exact hr2
      | .ok (.next), hr2 => exact hr2.elim
      | .ok (.brk), hr2 => exact hr2.elim
      | .ok (.cont), hr2 => exact hr2.elim
      | .ok (.ret r3), hr2 =>
        obtain ⟨rfl, h', tk, rfl, jn, kn⟩ := hr2
        repeat (any_goals (first | assumption | wp_step))
        exact fin _ _ jn kn
end
end N0

/-! B39: sorted(set(xs)), xs a list of texts. -/
namespace N0
open PySem PySem.Spec PyProof.Rows L2
def txOf (e : Int × Value) : Str := match e.2 with
  | .str z _ => z
  | _ => Str.empty
def TxE (w : World) (e : Int × Value) : Prop := ∃ z u, e.2 = Value.str z u ∧ e.1 = hashStr w z
/-- the entries of a set of the texts m -/
structure TxS (w : World) (es : Array (Int × Value)) (t : SetTable) (m : List Str) (n : Nat) : Prop where
  all : ∀ e ∈ es.toList, TxE w e
  nd : (es.toList.map txOf).Nodup
  mem : ∀ z, z ∈ es.toList.map txOf ↔ z ∈ m
  few : es.size ≤ n
  fit : t.fits es.size = true
  ris : Ris t.place.toList
  led : w.params.followText "set-order" = true ∨ t.led = true
/-- the set of the texts m at a -/
def SetTx (w : World) (h : Heap) (a : Addr) (m : List Str) (n : Nat) : Prop := ∃ o es ep t, h.get? a = some o ∧ o.ExactSet ∧ o.data = .set es ep t ∧ TxS w es t m n
section
variable {P : Program} {w : World} {A : Around} {E : Value → Shared → Prop} {s : Shared} {a : Addr} {m : List Str} {n : Nat} {es : Array (Int × Value)} {t : SetTable}
theorem TxS.elems (g : TxS w es t m n) : ElemsOf (strKind P w) es.toList := fun e he => by
  obtain ⟨z, u, h1, h2⟩ := g.all e he
  exact ⟨⟨z, by rw [h1]; exact PySem.Froz.is_str z u, h2⟩, by rw [h1]; rfl⟩
theorem TxE.is_ {e : Int × Value} (g : TxE w e) (z : Str) : (strKind P w).is z e.2 = true ↔ txOf e = z := by
  obtain ⟨y, u, h1, _⟩ := g
  have e1 : txOf e = y := by unfold txOf; rw [h1]
  rw [e1]
  constructor
  · intro q
    obtain ⟨u', q'⟩ := Value.isStrOf_shape (x := z) (v := e.2) q
    rw [h1] at q'
    injection q'
  · rintro rfl
    rw [h1]; exact PySem.Froz.is_str y u
theorem TxS.has (g : TxS w es t m n) (z : Str) : z ∈ m ↔ ∃ e ∈ es.toList, (strKind P w).is z e.2 = true := by
  rw [← g.mem z, List.mem_map]
  exact ⟨fun ⟨e, he, q⟩ => ⟨e, he, ((g.all e he).is_ z).mpr q⟩, fun ⟨e, he, q⟩ => ⟨e, he, ((g.all e he).is_ z).mp q⟩⟩
theorem TxS.plainOff (g : TxS w es t m n) : TxS w es { t with plain := false } m n := ⟨g.all, g.nd, g.mem, g.few, SetTable.fits_plain_off g.fit, g.ris, g.led⟩
/-- stored, and laid anew where it is too full -/
theorem tx_store {wd : Bool} {gw : Bool → Sem Unit} (quiet : ∀ (b : Bool) (u : Shared) (Q' : Unit → Shared → Prop), Q' () u → wpAny (model P w) A (gw b) Q' E u) {o : Obj} {es0 : Array (Int × Value)} {ep : Nat} {t0 : SetTable}
    (at_ : s.heap.get? a = some o) (ex : o.ExactSet) (dat : o.data = .set es0 ep t0) (g : TxS w es t m n) (small : n < scanBound) {R : Option Bool → Shared → Prop}
    (fin : ∀ h', Heap.SameBut a s.heap h' → SetTx w h' a m n → R (some true) { s with heap := h' }) :
    wpAny (model P w) A (do
      storeSet a es t
      if (!wd && t.tooFull) = true then do
          gw (relayAll t es (SetTable.grown es.size)).2.2
          storeSet a (relayAll t es (SetTable.grown es.size)).1 (relayAll t es (SetTable.grown es.size)).2.1
          pure (some true)
        else pure (some true)) R E s := by
  have room : es.size < scanBound := Nat.lt_of_le_of_lt g.few small
  refine wpAny_bind (wpAny_storeSet_of at_ dat ?_ (fits_of_scanBound room))
  have at1 := store_at (es' := es) (t' := t) at_ dat
  have sb1 := Heap.SameBut.update s.heap a (Obj.putSet es t)
  split
  · have pm := relayAll_perm t es (SetTable.grown es.size)
    have fit' := relayAll_fits t es (SetTable.grown es.size)
    have ris' := relayAll_ris t es (SetTable.grown es.size)
    have led' := relayAll_led t es (SetTable.grown es.size)
    generalize relayAll t es (SetTable.grown es.size) = Z at pm fit' ris' led' ⊢
    obtain ⟨es2, t2, gave⟩ := Z
    dsimp only at pm fit' ris' led' ⊢
    have sz : es2.size = es.size := by rw [← Array.length_toList, pm.length_eq, Array.length_toList]
    refine wpAny_bind (quiet _ _ _ (wpAny_bind (wpAny_storeSet_of at1 rfl ?_ (fits_of_scanBound (by rw [sz]; exact room)))))
    refine wpAny_pure (fin _ (sb1.trans (Heap.SameBut.update _ a _)) ⟨_, es2, _, t2, store_at (es' := es2) (t' := t2) at1 rfl, ex, rfl, ?_⟩)
    exact ⟨fun e he => g.all e (pm.mem_iff.mp he), (pm.map txOf).nodup_iff.mpr g.nd, fun z => (pm.map txOf).mem_iff.trans (g.mem z), by rw [sz]; exact g.few, fit', ris', g.led.imp id fun z => by rw [led']; exact z⟩
  · exact wpAny_pure (fin _ sb1 ⟨_, es, _, t, at1, ex, rfl, g⟩)
theorem tx_add {z : Str} {u : Tok} {Q : Bool → Shared → Prop} (g0 : SetTx w s.heap a m n) (small : n + 1 < scanBound)
    (fin : ∀ x h', Heap.SameBut a s.heap h' → SetTx w h' a (m ++ [z]) (n + 1) → Q x { s with heap := h' }) :
    wpAny (model P w) A (setAddHashed a (.str z u) ((strKind P w).hash z)) Q E s := by
  obtain ⟨o, es, ep, t, at_, ex, dat, g⟩ := g0
  have key : (strKind P w).is z (.str z u) = true := PySem.Froz.is_str z u
  have sc : (Value.str z u).scannable = true := rfl
  have el : ElemsOf (strKind P w) es.toList := g.elems
  have room : es.size < scanBound := by have := g.few; omega
  unfold setAddHashed setAddHashedIn
  refine wpAny_holding (wpAny_bind (wpAny_setState_of at_ dat g.fit ?_))
  dsimp only
  rw [byScan_of sc room el]
  simp only [↓reduceIte]
  unfold setAddByScan
  refine wpAny_bind (wpAny_bind (wpAny_rule (wpAny_bind (wpAny_setScan_of key at_ dat g.fit el ?_))))
  cases hf : List.findIdx? (fun e => (strKind P w).is z e.2) es.toList with
  | some j =>
    dsimp only
    obtain ⟨hj, pj, _⟩ := List.findIdx?_eq_some_iff_getElem.mp hf
    have zm : z ∈ m := (g.has (P := P) z).mpr ⟨es.toList[j], List.getElem_mem hj, pj⟩
    refine wpAny_pure (wpAny_pure (fin _ s.heap (Heap.SameBut.refl a s.heap) ⟨o, es, ep, t, at_, ex, dat, g.all, g.nd, fun y => ?_, by have := g.few; omega, g.fit, g.ris, g.led⟩))
    rw [g.mem y, List.mem_append, List.mem_singleton]
    exact ⟨.inl, fun q => q.elim id fun e => e ▸ zm⟩
  | none =>
    dsimp only
    have zn : z ∉ m := fun q => by
      obtain ⟨e, he, q⟩ := (g.has (P := P) z).mp q
      have c := List.findIdx?_eq_none_iff.mp hf e he
      rw [q] at c; cases c
    have quiet : ∀ (b : Bool) {u' : Shared} {Q' : Unit → Shared → Prop}, Q' () u' → wpAny (model P w) A (match b with | true => rule "set.scan.the-table-gave-way" | false => pure ()) Q' E u' :=
      fun b _ _ q => match b with
        | true => wpAny_rule q
        | false => wpAny_pure q
    have pm := layNew_perm t es ((strKind P w).hash z) (.str z u)
    have fit1 := layNew_fits t es ((strKind P w).hash z) (.str z u)
    have ris1 := layNew_ris t es ((strKind P w).hash z) (.str z u) g.ris
    have led1 := layNew_led t es ((strKind P w).hash z) (.str z u)
    generalize layNew t es ((strKind P w).hash z) (.str z u) = Z at pm fit1 ris1 led1 ⊢
    obtain ⟨es1, t1, wd, gave⟩ := Z
    dsimp only at pm fit1 ris1 led1 ⊢
    rw [Array.toList_push] at pm
    have pc : es1.toList.Perm (((strKind P w).hash z, Value.str z u) :: es.toList) := pm.trans (List.perm_append_singleton _ _)
    have pk : (es1.toList.map txOf).Perm (z :: es.toList.map txOf) := pc.map txOf
    have g1 : TxS w es1 t1 (m ++ [z]) (n + 1) := by
      refine ⟨fun e he => ?_, pk.nodup_iff.mpr (List.nodup_cons.mpr ⟨fun q => zn ((g.mem z).mp q), g.nd⟩), fun y => ?_, ?_, fit1, ris1, g.led.imp id fun q => by rw [led1]; exact q⟩
      · rcases List.mem_cons.mp (pc.mem_iff.mp he) with q | q
        · rw [q]; exact ⟨z, u, rfl, rfl⟩
        · exact g.all e q
      · rw [pk.mem_iff, List.mem_cons, List.mem_append, List.mem_singleton, g.mem y]
        exact Or.comm
      · rw [← Array.length_toList, pc.length_eq, List.length_cons, Array.length_toList]
        have := g.few; omega
    refine wpAny_bind (quiet _ ?_)
    split
    · refine wpAny_bind ?_
      rw [hashByValue_scannable 8 sc]
      refine wpAny_pure ?_
      have g2 : ∀ b : Bool, TxS w es1 (if b = true then t1 else { t1 with plain := false }) (m ++ [z]) (n + 1) := fun b => by
        cases b
        · exact g1.plainOff
        · exact g1
      refine tx_store (fun b u' Q' q => quiet b q) at_ ex dat (g2 _) small fun h' sb r => ?_
      dsimp only
      exact wpAny_pure (fin _ h' sb r)
    · refine wpAny_bind (wpAny_pure ?_)
      simp only [↓reduceIte]
      refine tx_store (fun b u' Q' q => quiet b q) at_ ex dat g1 small fun h' sb r => ?_
      dsimp only
      exact wpAny_pure (fin _ h' sb r)
end
section
variable {P : Program} {w : World} {A : Around} {E : Value → Shared → Prop} {s : Shared}
theorem SetTx.at_ {h h' : Heap} {a : Addr} {m : List Str} {n : Nat} (g : SetTx w h a m n) (k : ∀ o, h.get? a = some o → h'.get? a = some o) : SetTx w h' a m n :=
  let ⟨o, es, ep, t, e, r⟩ := g; ⟨o, es, ep, t, k o e, r⟩
theorem strs_get : ∀ {us : List Value} {xs : List Str}, StrsAre us xs → ∀ (i : Nat) (v : Value), us[i]? = some v → ∃ z u, xs[i]? = some z ∧ v = Value.str z u
  | _, _, .nil, i, v, h => by simp at h
  | _, _, .cons y tk r, 0, v, h => by injection h with h; exact ⟨y, tk, rfl, h.symm⟩
  | _, _, .cons y tk r, i + 1, v, h => strs_get r i v h
/-- set(xs), xs a list of texts -/
theorem tx_set {l : Addr} {items : Array Value} {xs : List Str} {Q : Value → Shared → Prop} (calm : A.handled = none) (isl : s.heap.IsList l items) (are : StrsAre items.toList xs) (small : xs.length + 1 < scanBound)
    (fin : ∀ (h' : Heap) (tk : Nat), SetTx w h' s.heap.objs.size xs xs.length → (∀ b o, s.heap.get? b = some o → h'.get? b = some o) → Q (.ref s.heap.objs.size) { s with heap := h', toks := tk }) :
    wpAny (model P w) A (call (.type "set") [.ref l]) Q E s := by
  have len : items.size = xs.length := by
    have := are.length
    rw [Array.length_toList] at this; exact this
  refine set_of_list (J := fun i h => SetTx w h s.heap.objs.size (xs.take i) i) calm isl (fun i h h' g k _ => g.at_ k) (fun h e _ => ?_) (fun B i v hB hv => ?_) (fun h' tk g kn => ?_)
  · refine ⟨_, #[], 0, _, e, ⟨rfl, rfl, rfl⟩, rfl, fun e he => by simp at he, by simp, fun z => by simp, Nat.le_refl _, rfl, List.Pairwise.nil, ?_⟩
    show _ ∨ (!w.params.followText "set-order") = true
    cases w.params.followText "set-order"
    · exact .inr rfl
    · exact .inl rfl
  · have hi : i < xs.length := by rw [← len]; exact (Array.getElem?_eq_some_iff.mp hv).1
    obtain ⟨z, u, hz, rfl⟩ := strs_get are i v (by rw [Array.getElem?_toList]; exact hv)
    intro u' Q' E' g kept fin'
    unfold setAdd
    refine wpAny_holding (wpAny_bind ((strKind P w).pyHash (k := z) (PySem.Froz.is_str z u) ?_))
    refine tx_add (s := { u' with toks := u'.toks + 1 }) g (by omega) fun x h' sb g' => ?_
    refine fin' x h' _ (Nat.le_succ _) sb ?_
    show SetTx w h' _ (xs.take (i + 1)) (i + 1)
    rw [List.take_succ, hz]; exact g'
  · rw [len, List.take_length] at g
    exact fin h' tk g kn
/-- sorted(set), of texts -/
theorem tx_sorted {a : Addr} {m : List Str} {n : Nat} {Q : Value → Shared → Prop} (g0 : SetTx w s.heap a m n) (calm : A.handled = none) (few : n < 64)
    (fin : ∀ (s' : Shared) (p : Addr) (out : Array Value) (c : Nat) (ys es : List Str), (∀ b o, s.heap.get? b = some o → s'.heap.get? b = some o) → s'.gens = s.gens → s'.os = s.os → s.heap.objs.size ≤ p →
      s'.heap.get? p = some (seqObj "list" out c) → StrsAre out.toList ys → ys.Perm es → sortedS ys = true → es.Nodup → (∀ z, z ∈ es ↔ z ∈ m) → ys.length < 64 → Q (.ref p) s') :
    wpAny (model P w) A (call (.builtin "sorted") [.ref a]) Q E s := by
  obtain ⟨o, es, ep, t, at_, ex, dat, g⟩ := g0
  refine Calls.call_function_entry kind_sorted plain_sorted entry_sorted (args_sorted1 _) (?_ : wpAny _ _ _ _ _ _)
  unfold Builtin.«sorted»
  refine wpAny_bind (m := checkCount "sorted" 1 1 _) (wpAny_pure (?_ : wpAny _ _ _ _ _ _))
  have sz : es.size < 64 := Nat.lt_of_le_of_lt g.few few
  refine wpAny_bind (collect_set (A := A.in1) calm ⟨o, at_, ex.1, dat⟩ g.fit (by unfold scanBound; omega) g.ris g.led fun u vs k1 z1 g1 o1 pm => ?_)
  have lv : vs.length = es.size := by rw [pm.length_eq, List.length_map, Array.length_toList]
  have are : StrsAre vs (vs.map strOf) := strsAre_map vs fun v hv => by
    obtain ⟨e, he, q⟩ := List.mem_map.mp (pm.mem_iff.mp hv)
    obtain ⟨z, tk, h1, _⟩ := g.all e he
    exact ⟨z, tk, by rw [← q]; exact h1⟩
  have pk : (vs.map strOf).Perm (es.toList.map txOf) := by
    have q := pm.map strOf
    rw [List.map_map] at q
    refine q.trans (List.Perm.of_eq (List.map_congr_left fun e he => ?_))
    obtain ⟨z, tk, h1, _⟩ := g.all e he
    show strOf e.2 = txOf e
    unfold txOf
    rw [h1]; rfl
  refine wpAny_bind (wpAny_newList (?_ : wpAny _ _ _ _ _ _) (by rw [lv, sizeLine_eq]; omega))
  have at1 : (u.heap.push (seqObj "list" vs.toArray 0)).get? u.heap.objs.size = some (seqObj "list" vs.toArray 0) := Heap.get?_push_size _ rfl
  refine wpAny_bind (wpAny_holding (wpAny_call_entry slot_list_sort ⟨_, at1, rfl⟩ entry_list_sort
    (list_sort_treeK strKind_oneLt (s := { u with heap := u.heap.push (seqObj "list" vs.toArray 0) }) at1 are.keysOf (fun x y r e => keyKind_strs (by rw [← e]; exact are)) (by rw [lv]; exact sz) fun st hp hs => ⟨_, rfl, ?_⟩) (args_list_sort _)))
  obtain ⟨ys, y1, y2, y3⟩ := sorted_out_str are hp hs
  obtain ⟨c, hc⟩ := sortedHeap_at (vs := vs) (out := (arrOf st).map (·.2)) at1
  refine wpAny_pure ⟨_, rfl, fin _ u.heap.objs.size _ c ys _ (fun b x e => ?_) g1 o1 z1 hc y1 (y2.trans pk) y3 g.nd g.mem (by rw [y2.length_eq, List.length_map, lv]; exact sz)⟩
  have lt := Heap.lt_size (k1 b x e)
  show (sortedHeap (u.heap.push (seqObj "list" vs.toArray 0)) u.heap.objs.size vs ((arrOf st).map (·.2))).get? b = some x
  rw [sortedHeap_old (Nat.ne_of_lt lt) (by rw [size_push']; exact Nat.lt_succ_of_lt lt)]
  exact Heap.get?_push_of_some _ (k1 b x e)
end
/-! ### in the hands' words -/
def tSortSetW (K : PySem.W.Frag) (te : TE) : TE := fun σ H Q => te σ H fun x H1 => ∃ (l : Addr) (ws : List (List Nat)), x = V.ref l ∧ SqL K H1 l (wordsV ws) ∧ ws.length < 64 ∧
  ∀ ys p, ys.Pairwise (· < ·) → (∀ w, w ∈ ys ↔ w ∈ ws) → H1 p = none → Q (.ref p) (upd H1 p (.lst (wordsV ys)))
theorem back_words : ∀ {es : List Str}, ∃ cs : List (List Nat), es = cs.map mkS
  | [] => ⟨[], rfl⟩
  | z :: r => let ⟨cs, e⟩ := back_words (es := r); ⟨z.cps.toList :: cs, by rw [List.map_cons, ← mkS_of z, e]⟩
theorem mem_mkS {w : List Nat} {cs : List (List Nat)} : mkS w ∈ cs.map mkS ↔ w ∈ cs := by
  rw [List.mem_map]
  exact ⟨fun ⟨d, hd, z⟩ => by rw [← mkS_inj.mp z]; exact hd, fun h => ⟨w, h, rfl⟩⟩
/-- behind a call that leaves all as it was but for a new list -/
theorem inv_newList {X : Cx} {pins : List (Addr × Obj)} {σ : L2.St} {H : Hp} {s s' : Shared} {p : Addr} {out : Array Value} {c : Nat} {ys : List V} (I : Inv X pins σ H s) (k : ∀ b o, s.heap.get? b = some o → s'.heap.get? b = some o) (g : s'.gens = s.gens) (o : s'.os = s.os)
    (hp : s.heap.objs.size ≤ p) (at_ : s'.heap.get? p = some (seqObj "list" out c)) (v : Vals ys out.toList) (few : ys.length ≤ sizeLine) : Inv X pins σ (upd H p (.lst ys)) s' := by
  have hn : H p = none := I.hok.fresh hp
  have J : Inv X pins σ (upd H p (.lst ys)) { s with heap := s'.heap, gens := s'.gens, drawn := s'.drawn, toks := s'.toks } :=
    I.call (ch := []) (Un.laid k hp hn) (I.hok.laid k hp ⟨few, out.toList, c, v, at_⟩) (by rw [g]; exact I.bare) (fun _ z => nomatch z)
  have e : s' = { s with heap := s'.heap, gens := s'.gens, drawn := s'.drawn, toks := s'.toks } := by
    cases s'; cases s; cases o; rfl
  rw [e]; exact J
section
variable {X : Cx}
theorem pe_sortSetW {a : Expr} {ta : TE} {p p2 q pos : Pos} (hc : X.calm = true) (g1 : Gl X "sorted") (m1 : X.mg "sorted" = none) (g2 : Gl X "set") (m2 : X.mg "set" = none) (ha : PE X a ta)
    (na : starEach [a] X.env = (false, eval a X.env) :: starEach [] X.env := by rfl) : PE X (.Call (.Name "sorted" p) [.Call (.Name "set" p2) [a] [] q] [] pos) (tSortSetW X.K ta) := by
  refine ⟨fun pins s σ H Q I h => Call_ (ld_blt I g1 m1 PyProof.Rows.boot_sorted (PyProof.Rows.callWith_builtin1 (PyProof.Rows.args_cons ?_ rfl) rfl rfl))⟩
  refine Call_ (ld_blt I g2 m2 PyProof.Rows.boot_set (PyProof.Rows.callWith_type1 (PyProof.Rows.args_cons (thn (ha.run pins s σ H _ I h) fun v u ⟨x, H1, I1, r1, y⟩ => PyProof.Rows.args_nil ?_) na) na rfl))
  obtain ⟨l, ws, rfl, sq, few, k⟩ := y
  cases r1
  obtain ⟨its, rv, pl, hz⟩ := I1.list sq
  have rv2 : Vals ((ws.map mkS).map V.str) its := by rw [List.map_map]; exact rv
  have are : StrsAre its (ws.map mkS) := rv2.strs
  refine tx_set (I1.ok.hd hc) pl.isList (xs := ws.map mkS) (by simpa using are) (by rw [List.length_map]; unfold scanBound; omega) fun h' tk st kn => PyProof.Rows.args_nil ?_
  have I2 : Inv X pins σ H1 { u with heap := h', toks := tk } := I1.kept kn
  rw [List.length_map] at st
  refine tx_sorted st (I1.ok.hd hc) few fun s' pn out c ys es k2 g o hp at_ ar pm so nd me l64 => ?_
  obtain ⟨cs, rfl⟩ := back_words (es := es)
  have nd2 : cs.Nodup := (List.pairwise_map.mp nd).imp fun h z => h (by rw [z])
  obtain ⟨zs, rfl, up, mz⟩ := sorted_texts pm so nd2
  rw [List.length_map] at l64
  refine ⟨.ref pn, _, inv_newList (ys := wordsV zs) I2 k2 g o hp at_ ?_ (by rw [wordsV_len, sizeLine_eq]; omega), rfl, k zs pn up (fun w => ?_) (I2.hok.fresh hp)⟩
  · have := vals_of_strs ar
    rw [List.map_map] at this
    exact this
  · rw [mz w, ← mem_mkS (cs := cs), me (mkS w), mem_mkS]
theorem g_sortSetW {K : PySem.W.Frag} {σ : L2.St} {H : Hp} {te : TE} {Q : VK} (h : te σ H fun x H1 => ∃ (l : Addr) (ws : List (List Nat)), x = V.ref l ∧ SqL K H1 l (wordsV ws) ∧ ws.length < 64 ∧
  ∀ ys p, ys.Pairwise (· < ·) → (∀ w, w ∈ ys ↔ w ∈ ws) → H1 p = none → Q (.ref p) (upd H1 p (.lst (wordsV ys)))) : tSortSetW K te σ H Q := h
end
end N0

/-! B40: sets of tuples of whole numbers and texts: an item added. -/
namespace N0
open PySem PySem.Spec PyProof.Rows L2
/-- the tuple at b has the members k -/
abbrev TupK (P : Program) (w : World) (h : Heap) (k : List Key) (b : Addr) : Prop := IsTupleKey (mixKind P w) h k b
abbrev hashK (P : Program) (w : World) (k : List Key) : Int := (tupleKind (mixKind P w)).hash k
/-- the c-th stop of a search for the hash h -/
abbrev stop (t : SetTable) (h : Int) (c : Nat) : SetTable.Probe := nth t.mask (runAt t.mask (SetTable.bits h % (t.mask + 1)) (SetTable.bits h)) c
section
variable {P : Program} {w : World} {A : Around} {E : Value → Shared → Prop} {s : Shared}
theorem key_vals {k : List Key} {vs : List Value} (g : ItemsAre (mixKind P w) k vs) : ∀ v ∈ vs, (∃ i u, v = Value.int i u) ∨ ∃ z u, v = Value.str z u := by
  induction g with
  | nil => exact fun v hv => nomatch hv
  | @cons k0 v0 ks vs one rest ih =>
    intro v hv
    rcases List.mem_cons.mp hv with rfl | hv
    · rcases keyIs_shape (k := k0) (v := v) one with ⟨i, u, _, e⟩ | ⟨z, u, _, e⟩
      · exact .inl ⟨i, u, e⟩
      · exact .inr ⟨z, u, e⟩
    · exact ih v hv
theorem tup_noClass {k : List Key} {b : Addr} {Q : Bool → Shared → Prop} (g : TupK P w s.heap k b) (q : Q false s) : wpAny (model P w) A (ofAClassStatement 8 (.ref b)) Q E s := by
  have ty := g.typeIs
  obtain ⟨o, items, n, at_, _, dat, are⟩ := g
  unfold ofAClassStatement
  refine wpAny_bind (wpAny_typeOf ty ?_)
  dsimp only
  rw [show (("tuple" : String) == "tuple") = true from by decide]
  simp only [if_true]
  refine wpAny_bind (wpAny_pure ?_)
  simp only [Bool.not_true, Bool.false_eq_true, if_false]
  show wpAny _ _ (seqItems? (.ref b) >>= _) _ _ s
  refine wpAny_bind (wpAny_seqItems at_ dat ?_)
  dsimp only
  refine wpAny_bind (?_ : wpAny _ _ (forIn items _ _) _ _ s)
  rw [← Array.forIn_toList]
  refine wpAny_forIn_list _ (fun left r u => r.1 = none ∧ u = s ∧ ∀ v ∈ left, (∃ i x, v = Value.int i x) ∨ ∃ z x, v = Value.str z x) _ ?_ ?_ _ _ ⟨rfl, rfl, key_vals are⟩
  · rintro v left r u ⟨hr, rfl, all⟩
    have none_ : ofAClassStatement 7 v = pure false := by
      rcases all v List.mem_cons_self with ⟨i, x, rfl⟩ | ⟨z, x, rfl⟩ <;> rfl
    rw [none_]
    refine wpAny_bind (wpAny_pure ?_)
    simp only [Bool.false_eq_true, if_false]
    exact wpAny_pure ⟨rfl, rfl, fun y hy => all y (List.mem_cons_of_mem _ hy)⟩
  · rintro ⟨r1, r2⟩ u ⟨hr, rfl, _⟩
    simp only at hr
    subst hr
    exact wpAny_pure q
theorem tup_byValue {k : List Key} {b : Addr} {Q : Bool → Shared → Prop} (g : TupK P w s.heap k b) (q : ∀ x, Q x s) : wpAny (model P w) A (hashByValue 8 (.ref b)) Q E s := by
  have ty := g.typeIs
  obtain ⟨o, items, n, at_, _, dat, are⟩ := g
  unfold hashByValue
  refine wpAny_bind (wpAny_specialOf ty F.slot_tuple_hash.lookup ?_)
  show wpAny _ _ (seqItems? (.ref b) >>= _) _ _ s
  refine wpAny_bind (wpAny_seqItems at_ dat ?_)
  refine wpAny_bind (?_ : wpAny _ _ (forIn items _ _) _ _ s)
  rw [← Array.forIn_toList]
  refine wpAny_forIn_list _ (fun left r u => u = s ∧ ∀ v ∈ left, (∃ i x, v = Value.int i x) ∨ ∃ z x, v = Value.str z x) _ ?_ ?_ _ _ ⟨rfl, key_vals are⟩
  · rintro v left r u ⟨rfl, all⟩
    rcases all v List.mem_cons_self with ⟨i, x, rfl⟩ | ⟨z, x, rfl⟩
    · rw [show hashByValue 7 (Value.int i x) = pure true from rfl]
      refine wpAny_bind (wpAny_pure ?_)
      simp only [Bool.not_true, Bool.false_eq_true, if_false]
      exact wpAny_pure ⟨rfl, fun y hy => all y (List.mem_cons_of_mem _ hy)⟩
    · rw [show hashByValue 7 (Value.str z x) = pure false from rfl]
      refine wpAny_bind (wpAny_pure ?_)
      simp only [Bool.not_false, if_true]
      exact wpAny_pure (wpAny_pure (q _))
  · rintro ⟨r1, r2⟩ u hu
    have hu : u = s := by first | exact hu.1 | exact hu
    subst hu
    cases r1 with
    | none => exact wpAny_pure (q _)
    | some z => exact wpAny_pure (q _)
/-- a search among such tuples shows nothing of the table -/
theorem tup_unseen {k : List Key} {b : Addr} {Q : Bool → Shared → Prop} (g : TupK P w s.heap k b) {ys : List Value} (all : ∀ y ∈ ys, ∃ k' c, y = Value.ref c ∧ TupK P w s.heap k' c) (q : Q false s) :
    wpAny (model P w) A (searchCouldBeSeen (.ref b) ys) Q E s := by
  unfold searchCouldBeSeen
  refine wpAny_bind (?_ : wpAny _ _ (forIn ys _ _) _ _ s)
  refine wpAny_forIn_list _ (fun left r u => r.1 = none ∧ u = s ∧ ∀ y ∈ left, ∃ k' c, y = Value.ref c ∧ TupK P w s.heap k' c) _ ?_ ?_ _ _ ⟨rfl, rfl, all⟩
  · rintro y left r u ⟨hr, rfl, al⟩
    obtain ⟨k', c, rfl, gc⟩ := al y List.mem_cons_self
    have al' : ∀ y ∈ left, ∃ k' c, y = Value.ref c ∧ TupK P w u.heap k' c := fun y hy => al y (List.mem_cons_of_mem _ hy)
    dsimp only
    by_cases very : (b == c || (carriedByValue (.ref b) && carriedByValue (.ref c))) = true
    · exact wp_if_pos very (wpAny_pure ⟨rfl, rfl, al'⟩)
    · refine wp_if_neg very (wpAny_bind (wpAny_eqIsQuiet_tuple g ?_))
      simp only [Bool.not_true, Bool.false_eq_true, if_false]
      refine wpAny_bind (wpAny_eqIsQuiet_tuple gc ?_)
      simp only [Bool.not_true, Bool.false_eq_true, if_false]
      refine wpAny_bind (tup_noClass g ?_)
      simp only [Bool.false_eq_true, if_false]
      refine wpAny_bind (tup_noClass gc ?_)
      simp only [Bool.false_eq_true, if_false]
      exact wpAny_pure ⟨rfl, rfl, al'⟩
  · rintro ⟨r1, r2⟩ u ⟨hr, rfl, _⟩
    simp only at hr
    subst hr
    exact wpAny_pure q
end
/-! ### the set -/
def pairRows (P : Program) (w : World) (L : List (Addr × List Key)) : List (Int × Value) := L.map fun p => (hashK P w p.2, Value.ref p.1)
/-- the set of these tuples at a; its table is in order -/
structure PSet (P : Program) (w : World) (h : Heap) (a : Addr) (L : List (Addr × List Key)) (es : Array (Int × Value)) (ep : Nat) (t : SetTable) : Prop where
  obj : ∃ o, h.get? a = some o ∧ o.ExactSet ∧ o.data = .set es ep t
  row : es.toList = pairRows P w L
  tab : TabOk t (L.map fun p => hashK P w p.2)
  one : (L.map (·.2)).Nodup
  tup : ∀ p ∈ L, TupK P w h p.2 p.1
  led : w.params.followText "set-order" = true ∨ t.led = true
  wide : L.length * 5 < t.mask * 3
  few : L.length < 64
section
variable {P : Program} {w : World} {A : Around} {E : Value → Shared → Prop} {s : Shared} {a : Addr} {L : List (Addr × List Key)} {es : Array (Int × Value)} {ep : Nat} {t : SetTable}
theorem pairRows_len : (pairRows P w L).length = L.length := by simp [pairRows]
theorem PSet.size {h : Heap} (g : PSet P w h a L es ep t) : es.size = L.length := by rw [← Array.length_toList, g.row, pairRows_len]
theorem PSet.fits {h : Heap} (g : PSet P w h a L es ep t) : t.fits es.size = true := by
  have h1 := g.tab.sz
  have h2 := g.size
  have h3 := g.wide
  rw [List.length_map] at h1
  unfold SetTable.fits SetTable.fill
  rw [g.tab.dm, Bool.and_eq_true, beq_iff_eq, decide_eq_true_eq]
  exact ⟨by omega, by show t.place.size + 0 ≤ t.mask; omega⟩
theorem PSet.entry {h : Heap} (g : PSet P w h a L es ep t) {i : Nat} {p : Addr × List Key} (e : L[i]? = some p) : es[i]? = some (hashK P w p.2, Value.ref p.1) := by
  rw [← Array.getElem?_toList, g.row]
  unfold pairRows
  rw [List.getElem?_map, e]; rfl
theorem odd_mask (T : MaskOk t.mask) : ¬ t.gaveWay = true := by
  unfold SetTable.gaveWay
  rw [mask_odd T]; decide
theorem stop_clean (h : Int) (c : Nat) : (stop t h c).dummy = none := by
  have key : ∀ (n : Nat) (p : SetTable.Probe), p.dummy = none → (nth t.mask p n).dummy = none := by
    intro n
    induction n with
    | zero => exact fun p e => e
    | succ n ih =>
      intro p e
      refine ih (adv t.mask p) ?_
      unfold adv
      split <;> exact e
  exact key c _ rfl
theorem stop_on (h : Int) (c q : Nat) : nth t.mask (stop t h c) q = stop t h (c + q) := (nth_add t.mask c _ q).symm
/-- the search for k, from its c-th stop on: N is the first empty slot of its way -/
theorem seek (g : PSet P w s.heap a L es ep t) {x : Addr} {k : List Key} (gx : TupK P w s.heap k x) (hu : A.units < cLine) {N : Nat} (big : N < 10 * SetTable.turns t.mask)
    (free : way t.mask (hashK P w k) N ∉ t.place.toList) (full : ∀ c, c < N → way t.mask (hashK P w k) c ∈ t.place.toList) {Q : SetFound → Shared → Prop}
    (yes : k ∈ L.map (·.2) → Q (.there none) s) (no : k ∉ L.map (·.2) → Q (.free (way t.mask (hashK P w k) N) false) s) :
    ∀ (f c : Nat) (st : Option SetTable.Probe), st.getD (t.probeStart (hashK P w k)) = stop t (hashK P w k) c → c ≤ N → N - c < f →
      (∀ (i : Nat) p, L[i]? = some p → p.2 = k → ∃ c', c ≤ c' ∧ c' < N ∧ t.place.toList[i]? = some (way t.mask (hashK P w k) c')) →
      wpAny (model P w) A (setSearchFrom a (.ref x) (hashK P w k) true f st) Q E s := by
  intro f
  induction f with
  | zero => intro c st _ _ lt _; exact absurd lt (Nat.not_lt_zero _)
  | succ f ih =>
    intro c st es0 cN lt near
    obtain ⟨o, at_, ex, dat⟩ := g.obj
    have hsh : ∀ (i : Nat) p, L[i]? = some p → (fun i => (es[i]?.map (·.1)).getD 0) i = hashK P w p.2 := fun i p e => by
      show (es[i]?.map (·.1)).getD 0 = _
      rw [g.entry e]; rfl
    have wayq : ∀ q, (nth t.mask (stop t (hashK P w k) c) q).j = way t.mask (hashK P w k) (c + q) := fun q => congrArg SetTable.Probe.j (stop_on _ c q)
    have spec := go_spec t g.tab.ris g.tab.dm (fun i => (es[i]?.map (·.1)).getD 0) (hashK P w k) (10 * SetTable.turns t.mask) (N - c) (stop t (hashK P w k) c) (stop_clean _ c) (by omega)
      (fun q hq => by rw [wayq]; exact full (c + q) (by omega)) (by rw [wayq, show c + (N - c) = N by omega]; exact free)
    rw [setSearchFrom_succ]
    refine wpAny_bind (wpAny_setState_of at_ dat g.fits ?_)
    dsimp only
    refine wp_if_neg (odd_mask g.tab.mok) (?_ : wpAny _ _ _ _ _ _)
    try refine wpAny_bind (wpAny_pure (?_ : wpAny _ _ _ _ _ _))
    rcases spec with ⟨q, i, hq, hi, hh, hno, hp⟩ | ⟨hno, hp⟩
    · have probe : t.probe (fun i => (es[i]?.map (·.1)).getD 0) (hashK P w k) (st.getD (t.probeStart (hashK P w k))) = some (.candidate (way t.mask (hashK P w k) (c + q)) i (stop t (hashK P w k) (c + (q + 1)))) := by
        rw [es0, ← wayq, ← stop_on]
        exact hp
      rw [probe]
      dsimp only
      rw [wayq] at hi
      have il : i < L.length := by
        have h1 : i < t.place.toList.length := (List.getElem?_eq_some_iff.mp hi).1
        have h2 := g.tab.sz
        rw [List.length_map] at h2
        rw [Array.length_toList] at h1
        omega
      obtain ⟨p, ep0⟩ : ∃ p, L[i]? = some p := ⟨_, List.getElem?_eq_getElem il⟩
      have pm : p ∈ L := List.mem_of_getElem? ep0
      have rest : wpAny (model P w) A (searchRest a (.ref x) (hashK P w k) true f es t (way t.mask (hashK P w k) (c + q)) i (stop t (hashK P w k) (c + (q + 1)))) Q E s := by
        unfold searchRest
        rw [g.entry ep0]
        dsimp only
        refine wpAny_bind (wpAny_holding (wpAny_eqBool_tuple hu (g.tup p pm) gx (wpAny_bind (wpAny_setState_of at_ dat g.fits ?_))))
        dsimp only
        by_cases same : p.2 = k
        · exact wp_if_pos (by simp [same]) (wpAny_pure (yes (List.mem_map.mpr ⟨p, pm, same⟩)))
        · refine wp_if_neg (by simp [same]) (?_ : wpAny _ _ _ _ _ _)
          try refine wpAny_bind (wpAny_pure (?_ : wpAny _ _ _ _ _ _))
          rw [sameMem]
          dsimp only
          have live : t.slot (way t.mask (hashK P w k) (c + q)) = .live i := slot_live g.tab.ris hi
          simp only [if_true, live, g.entry ep0]
          refine wpAny_bind (wpAny_isSame_ref_self (wpAny_bind (wpAny_pure ?_)))
          simp only [if_true]
          refine wp_if_neg (by simp [same]) (ih (c + (q + 1)) _ rfl (by omega) (by omega) fun i0 p0 h0 hk0 => ?_)
          obtain ⟨c', a1, a2, a3⟩ := near i0 p0 h0 hk0
          refine ⟨c', ?_, a2, a3⟩
          rcases Nat.lt_trichotomy c' (c + q) with z | z | z
          · exfalso
            refine hno (c' - c) i0 (by omega) (by rw [wayq, show c + (c' - c) = c' by omega]; exact a3) ?_
            exact (hsh i0 p0 h0).trans (by rw [hk0])
          · exfalso
            rw [z] at a3
            have live2 := slot_live g.tab.ris a3
            rw [live] at live2
            injection live2 with e
            rw [← e, ep0] at h0
            injection h0 with h0
            exact same (h0 ▸ hk0)
          · omega
      by_cases hl : t.led = true
      · refine wp_if_neg (by simp [hl]) (?_ : wpAny _ _ _ _ _ _)
        try refine wpAny_bind (wpAny_pure (?_ : wpAny _ _ _ _ _ _))
        exact rest
      · refine wp_if_pos (by simp [hl]) (wpAny_bind (tup_unseen gx (fun y hy => ?_) ?_))
        · obtain ⟨e, he, ee⟩ := List.mem_map.mp hy
          have he1 : e ∈ es ∧ e.1 = hashK P w k := by simpa using he
          have he2 : e ∈ es.toList := by simpa using he1.1
          rw [g.row] at he2
          obtain ⟨p2, hp2, e2⟩ := List.mem_map.mp he2
          exact ⟨p2.2, p2.1, by rw [← ee, ← e2], g.tup p2 hp2⟩
        · refine wp_if_neg (by decide) (?_ : wpAny _ _ _ _ _ _)
          try refine wpAny_bind (wpAny_pure (?_ : wpAny _ _ _ _ _ _))
          exact rest
    · have probe : t.probe (fun i => (es[i]?.map (·.1)).getD 0) (hashK P w k) (st.getD (t.probeStart (hashK P w k))) = some (.empty (way t.mask (hashK P w k) N) none) := by
        have e2 := wayq (N - c)
        rw [show c + (N - c) = N by omega] at e2
        rw [es0, ← e2]
        exact hp
      rw [probe]
      dsimp only
      refine wpAny_pure (no fun hm => ?_)
      obtain ⟨p0, h0, hk0⟩ := List.mem_map.mp hm
      obtain ⟨i0, hi0⟩ := List.mem_iff_getElem?.mp h0
      obtain ⟨c', a1, a2, a3⟩ := near i0 p0 hi0 hk0
      refine hno (c' - c) i0 (by omega) (by rw [wayq, show c + (c' - c) = c' by omega]; exact a3) ?_
      exact (hsh i0 p0 hi0).trans (by rw [hk0])
/-- the search, as adding asks for it -/
theorem seek_at (g : PSet P w s.heap a L es ep t) {x : Addr} {k : List Key} (gx : TupK P w s.heap k x) (hu : A.units < cLine) {Q : SetFound → Shared → Prop} (yes : k ∈ L.map (·.2) → Q (.there none) s)
    (no : ∀ N, k ∉ L.map (·.2) → way t.mask (hashK P w k) N ∉ t.place.toList → (∀ c, c < N → way t.mask (hashK P w k) c ∈ t.place.toList) → Q (.free (way t.mask (hashK P w k) N) false) s) :
    wpAny (model P w) A (setSearch a (.ref x) (hashK P w k) true) Q E s := by
  have wide := g.wide
  obtain ⟨N, lt, free, full⟩ := g.tab.first (by rw [List.length_map]; omega) (hashK P w k)
  have small : 10 * SetTable.turns t.mask ≤ 1420 := by
    unfold SetTable.turns
    rcases g.tab.mok with e | e | e <;> omega
  unfold setSearch
  refine seek g gx hu lt free full yes (fun h => no N h free full) 100000 0 none rfl (Nat.zero_le _) (by omega) fun i p hp hk => ?_
  have hi : (L.map fun p => hashK P w p.2)[i]? = some (hashK P w k) := by rw [List.getElem?_map, hp, ← hk]; rfl
  have il : i < t.place.toList.length := by
    have h1 : i < L.length := (List.getElem?_eq_some_iff.mp hp).1
    have h2 := g.tab.sz
    rw [List.length_map] at h2
    rw [Array.length_toList]; omega
  have hj := List.getElem?_eq_getElem il
  obtain ⟨c, hc, e⟩ := g.tab.before free hi hj
  exact ⟨c, Nat.zero_le _, hc, by rw [hj, e]⟩
theorem TupK.besides {h h' : Heap} {k : List Key} {b : Addr} {o : Obj} (g : TupK P w h k b) (at_ : h.get? a = some o) (dat : o.data = .set es ep t) (sb : Heap.SameBut a h h') : TupK P w h' k b := by
  obtain ⟨o', its, n, e, c, d, are⟩ := g
  have ne : b ≠ a := fun z => by
    subst z
    rw [at_] at e
    injection e with e
    rw [← e, dat] at d
    exact nomatch d
  exact ⟨o', its, n, (sb.2 b ne).trans e, c, d, are⟩
theorem TupK.kept {h h' : Heap} {k : List Key} {b : Addr} (g : TupK P w h k b) (kn : ∀ b o, h.get? b = some o → h'.get? b = some o) : TupK P w h' k b :=
  let ⟨o, its, n, e, r⟩ := g; ⟨o, its, n, kn b o e, r⟩
theorem into_perm {α : Type} (l : List α) (p : Nat) (x : α) : (l.take p ++ x :: l.drop p).Perm (x :: l) := by
  have h : (l.take p ++ x :: l.drop p).Perm (x :: (l.take p ++ l.drop p)) := List.perm_middle
  rwa [List.take_append_drop] at h
/-- by another order -/
theorem by_order (order : Array Nat) (row : es.toList = pairRows P w L) (pm : order.toList.Perm (List.range L.length)) :
    ∃ L2, (order.filterMap (es[·]?)).toList = pairRows P w L2 ∧ L2.Perm L ∧ (L2.map fun p => hashK P w p.2) = order.toList.map fun i => (es.map (·.1)).getD i 0 := by
  have sz : es.size = L.length := by rw [← Array.length_toList, row, pairRows_len]
  have ent : ∀ (i : Nat) (p : Addr × List Key), L[i]? = some p → es[i]? = some (hashK P w p.2, Value.ref p.1) := fun i p e => by
    rw [← Array.getElem?_toList, row]
    unfold pairRows
    rw [List.getElem?_map, e]; rfl
  have go : ∀ l : List Nat, (∀ i ∈ l, i < L.length) → l.filterMap (fun i => es[i]?) = pairRows P w (l.filterMap fun i => L[i]?) ∧ ((l.filterMap fun i => L[i]?).map fun p => hashK P w p.2) = l.map fun i => (es.map (·.1)).getD i 0 := by
    intro l
    induction l with
    | nil => exact fun _ => ⟨rfl, rfl⟩
    | cons i l ih =>
      intro hl
      have hi := List.getElem?_eq_getElem (hl i List.mem_cons_self)
      obtain ⟨e1, e2⟩ := ih fun j hj => hl j (List.mem_cons_of_mem _ hj)
      have e4 : (es.map (·.1)).getD i 0 = hashK P w (L[i]'(hl i List.mem_cons_self)).2 := by
        have e5 : (es.map (·.1))[i]? = some (hashK P w (L[i]'(hl i List.mem_cons_self)).2) := by rw [Array.getElem?_map, ent i _ hi]; rfl
        simp [Array.getD_eq_getD_getElem?, e5]
      rw [List.filterMap_cons_some (ent i _ hi), List.filterMap_cons_some hi, List.map_cons, List.map_cons, e1, e2, e4]
      exact ⟨rfl, rfl⟩
  obtain ⟨e1, e2⟩ := go order.toList fun i hi => List.mem_range.mp (pm.mem_iff.mp hi)
  refine ⟨_, by rw [Array.toList_filterMap]; exact e1, ?_, e2⟩
  refine (pm.filterMap _).trans (List.Perm.of_eq ?_)
  exact PySem.List.filterMap_getElem?_range_length L
/-- the table laid anew, larger -/
theorem relaid_set {o : Obj} (at_ : s.heap.get? a = some o) (ex : o.ExactSet) (dat : o.data = .set es ep t) (row : es.toList = pairRows P w L) (sz : t.place.size = es.size) (dm : t.dummies = #[]) (fl : es.size ≤ t.mask)
    (one : (L.map (·.2)).Nodup) (tup : ∀ p ∈ L, TupK P w s.heap p.2 p.1) (led : w.params.followText "set-order" = true ∨ t.led = true) (few : L.length < 64) {wanted M : Nat}
    (hw : SetTable.sizeAbove wanted - 1 = M) (hM : MaskOk M) (hs : SetTable.sizeAbove wanted ≤ 128) (wide : L.length * 5 < M * 3) {Q : Unit → Shared → Prop}
    (fin : ∀ h' L' es' ep' t', Heap.SameBut a s.heap h' → PSet P w h' a L' es' ep' t' → L'.Perm L → Q () { s with heap := h' }) : wpAny (model P w) A (setRelay a wanted) Q E s := by
  have len : es.size = L.length := by rw [← Array.length_toList, row, pairRows_len]
  have fit : t.fits es.size = true := by
    unfold SetTable.fits SetTable.fill
    rw [dm, Bool.and_eq_true, beq_iff_eq, decide_eq_true_eq]
    exact ⟨sz, by show t.place.size + 0 ≤ t.mask; omega⟩
  obtain ⟨t', order, er, pm, T, em, el, _, _⟩ := relaid_ok t (hs := es.map (·.1)) (wanted := wanted) hw hM (by rw [Array.size_map, len]; omega)
  rw [Array.size_map, len] at pm
  obtain ⟨L2, r1, r2, r3⟩ := by_order order row pm
  rw [← r3] at T
  have s2 : (order.filterMap (es[·]?)).size = es.size := by rw [← Array.length_toList, r1, pairRows_len, r2.length_eq, len]
  rw [setRelay_eq]
  refine wpAny_bind (wpAny_setState_of at_ dat fit ?_)
  dsimp only
  refine wp_if_neg (by rw [sizeLine_eq]; omega) (?_ : wpAny _ _ _ _ _ _)
  try refine wpAny_bind (wpAny_pure (?_ : wpAny _ _ _ _ _ _))
  rw [er]
  dsimp only
  refine wpAny_bind (wp_if_neg (by rw [s2]; simp) (?_ : wpAny _ _ _ _ _ _))
  try refine wpAny_bind (wpAny_pure (?_ : wpAny _ _ _ _ _ _))
  refine wpAny_pure (?_ : wpAny _ _ _ _ _ _)
  dsimp only
  refine wpAny_storeSet_of at_ dat ?_ (by rw [s2, len, sizeLine_eq]; omega)
  have sb : Heap.SameBut a s.heap (s.heap.update a (Obj.putSet (order.filterMap (es[·]?)) t')) := Heap.SameBut.update ..
  refine fin _ L2 (order.filterMap (es[·]?)) (ep + 1) t' sb ⟨⟨_, store_at at_ dat, ⟨ex.1, ex.2.1, ex.2.2⟩, rfl⟩, r1, T, (r2.map (·.2)).nodup_iff.mpr one, fun p hp => TupK.besides (tup p (r2.mem_iff.mp hp)) at_ dat sb, by rw [el]; exact led, ?_, by rw [r2.length_eq]; exact few⟩ r2
  rw [r2.length_eq, em]; exact wide
theorem PSet.unplain {h : Heap} {T : SetTable} {hs : List Int} (g : TabOk T hs) : TabOk { T with plain := false } hs := ⟨g.ris, g.dm, g.sz, g.mok, g.bd, g.reach⟩
/-- ADDING an item -/
theorem pset_add (g : PSet P w s.heap a L es ep t) {x : Addr} {k : List Key} (gx : TupK P w s.heap k x) (hu : A.units < cLine) (few : L.length + 1 < 64) {Q : Bool → Shared → Prop}
    (fin : ∀ b h' L' es' ep' t', Heap.SameBut a s.heap h' → PSet P w h' a L' es' ep' t' → (k ∈ L.map (·.2) → L' = L) → (k ∉ L.map (·.2) → L'.Perm ((x, k) :: L)) → Q b { s with heap := h' }) :
    wpAny (model P w) A (setAddHashed a (.ref x) (hashK P w k)) Q E s := by
  obtain ⟨o, at_, ex, dat⟩ := g.obj
  have len := g.size
  have wide := g.wide
  unfold setAddHashed
  refine wpAny_holding (?_ : wpAny _ _ _ _ _ _)
  rw [show (100000 : Nat) = 99999 + 1 from rfl, setAddHashedIn_succ]
  refine wpAny_bind (wpAny_setState_of at_ dat g.fits ?_)
  dsimp only
  refine wp_if_neg (by simp [byScan, Value.scannable]) (?_ : wpAny _ _ _ _ _ _)
  try refine wpAny_bind (wpAny_pure (?_ : wpAny _ _ _ _ _ _))
  refine wpAny_bind (seek_at g gx hu (fun hm => ?_) fun N hm free full => ?_)
  · dsimp only
    exact wpAny_pure (fin false s.heap L es ep t (Heap.SameBut.refl a s.heap) g (fun _ => rfl) fun z => absurd hm z)
  dsimp only
  refine wpAny_bind (wpAny_setState_of at_ dat g.fits ?_)
  dsimp only
  obtain ⟨q1, q2, q3, q4, q5, q6, q7, q8, q9⟩ := g.tab.put free full
  generalize hpt : t.put (way t.mask (hashK P w k) N) = pt at q1 q3 q4 q5 q6 q7 q8 q9 ⊢
  obtain ⟨t1, p⟩ := pt
  dsimp only at q1 q3 q4 q5 q6 q7 q8 q9 ⊢
  subst q1
  have row1 : (SetTable.insertAt es (SetTable.below t.place (way t.mask (hashK P w k) N)) (hashK P w k, Value.ref x)).toList = pairRows P w (L.take (SetTable.below t.place (way t.mask (hashK P w k) N)) ++ (x, k) :: L.drop (SetTable.below t.place (way t.mask (hashK P w k) N))) := by
    rw [SetTable.toList_insertAt, g.row]
    unfold pairRows
    rw [List.map_append, List.map_cons, List.map_take, List.map_drop]
  generalize SetTable.below t.place (way t.mask (hashK P w k) N) = p at q2 q3 row1 ⊢
  have pm := into_perm L p (x, k)
  have len1 : (L.take p ++ (x, k) :: L.drop p).length = L.length + 1 := pm.length_eq
  have hashes : (L.take p ++ (x, k) :: L.drop p).map (fun p => hashK P w p.2) = (L.map fun p => hashK P w p.2).take p ++ hashK P w k :: (L.map fun p => hashK P w p.2).drop p := by
    rw [List.map_append, List.map_cons, List.map_take, List.map_drop]
  rw [← hashes] at q3
  have one1 : ((L.take p ++ (x, k) :: L.drop p).map (·.2)).Nodup := (pm.map (·.2)).nodup_iff.mpr (by rw [List.map_cons]; exact List.nodup_cons.mpr ⟨hm, g.one⟩)
  generalize SetTable.insertAt es p (hashK P w k, Value.ref x) = es1 at row1 ⊢
  generalize L.take p ++ (x, k) :: L.drop p = L1 at pm len1 q3 one1 row1
  have sz1 : es1.size = L.length + 1 := by rw [← Array.length_toList, row1, pairRows_len, len1]
  -- behind the question whether it is by value: t2 is t1, but for that mark
  have rest : ∀ t2 : SetTable, TabOk t2 (L1.map fun p => hashK P w p.2) → t2.mask = t.mask → t2.led = t.led → t2.fill = L.length + 1 →
      wpAny (model P w) A (do
        storeSet a es1 t2
        if !false && t2.tooFull then setRelay a (SetTable.grown (es.size + 1))
        return true) Q E s := by
    intro t2 T2 m2 l2 f2
    refine wpAny_bind (wpAny_storeSet_of at_ dat ?_ (by rw [sz1, sizeLine_eq]; omega))
    have sb : Heap.SameBut a s.heap (s.heap.update a (Obj.putSet es1 t2)) := Heap.SameBut.update ..
    have at1 := store_at (es' := es1) (t' := t2) at_ dat
    generalize s.heap.update a (Obj.putSet es1 t2) = h1 at sb at1 ⊢
    have tup1 : ∀ p ∈ L1, TupK P w h1 p.2 p.1 := fun p hp => by
      rcases List.mem_cons.mp (pm.mem_iff.mp hp) with e | hp
      · rw [e]; exact TupK.besides gx at_ dat sb
      · exact TupK.besides (g.tup p hp) at_ dat sb
    have led1 : w.params.followText "set-order" = true ∨ t2.led = true := by rw [l2]; exact g.led
    by_cases hf : t2.tooFull = true
    · have crowd : (L.length + 1) * 5 ≥ t2.mask * 3 := by
        have h := hf
        unfold SetTable.tooFull at h
        rw [decide_eq_true_eq, f2] at h
        exact h
      have two_ : (t.mask = 7 ∧ L.length = 4) ∨ (t.mask = 31 ∧ L.length = 18) := by
        rcases g.tab.mok with e | e | e <;> rw [m2, e] at crowd <;> rw [e] at wide
        · exact .inl ⟨e, by omega⟩
        · exact .inr ⟨e, by omega⟩
        · omega
      have psz : t2.place.size = es1.size := by
        have h := T2.sz
        rw [List.length_map, len1] at h
        rw [h, sz1]
      have go : ∀ M, SetTable.sizeAbove (SetTable.grown (L.length + 1)) - 1 = M → MaskOk M → SetTable.sizeAbove (SetTable.grown (L.length + 1)) ≤ 128 → (L.length + 1) * 5 < M * 3 →
          wpAny (model P w) A (setRelay a (SetTable.grown (L.length + 1))) (fun _ s' => wpAny (model P w) A (pure true) Q E s') E { s with heap := h1 } := fun M h1' h2' h3' h4' =>
        relaid_set (s := { s with heap := h1 }) at1 ⟨ex.1, ex.2.1, ex.2.2⟩ rfl row1 psz T2.dm (by rw [sz1, m2]; rcases two_ with ⟨e, e2⟩ | ⟨e, e2⟩ <;> omega) one1 tup1 led1 (by rw [len1]; exact few) h1' h2' h3' (by rw [len1]; exact h4')
          fun h2 L2 es2 ep2 t3 sb2 g2 pm2 => wpAny_pure (fin true h2 L2 es2 ep2 t3 (sb.trans sb2) g2 (fun z => absurd z hm) fun _ => pm2.trans pm)
      rw [len]
      first
        | (refine wpAny_bind (wp_if_pos (by simp [hf]) (?_ : wpAny _ _ _ _ _ _)))
        | (refine wp_if_pos (by simp [hf]) (wpAny_bind (?_ : wpAny _ _ _ _ _ _)))
      rcases two_ with ⟨_, e2⟩ | ⟨_, e2⟩
      · exact go 31 (by rw [e2, size_20]) (.inr (.inl rfl)) (by rw [e2, size_20]; decide) (by omega)
      · exact go 127 (by rw [e2, size_76]) (.inr (.inr rfl)) (by rw [e2, size_76]; decide) (by omega)
    · have roomy : (L.length + 1) * 5 < t2.mask * 3 := by
        have h := hf
        unfold SetTable.tooFull at h
        rw [decide_eq_true_eq, f2] at h
        omega
      first
        | (refine wp_if_neg (by simp [hf]) (?_ : wpAny _ _ _ _ _ _))
        | (refine wpAny_bind (wp_if_neg (by simp [hf]) (wpAny_pure (?_ : wpAny _ _ _ _ _ _))))
      exact wpAny_pure (fin true h1 L1 es1 (ep + 1) t2 sb ⟨⟨_, at1, ⟨ex.1, ex.2.1, ex.2.2⟩, rfl⟩, row1, q3 |> fun _ => T2, one1, tup1, led1, by rw [len1]; exact roomy, by rw [len1]; exact few⟩ (fun z => absurd z hm) fun _ => pm)
  have f1 : t1.fill = L.length + 1 := by rw [q9, List.length_map]
  have ask : ∀ b : Bool, wpAny (model P w) A (do
        storeSet a es1 (if b = true then t1 else { t1 with plain := false })
        if !false && (if b = true then t1 else { t1 with plain := false }).tooFull then setRelay a (SetTable.grown (es.size + 1))
        return true) Q E s := fun b => by
    cases b
    · exact rest { t1 with plain := false } (PSet.unplain (h := s.heap) q3) q4 q5 f1
    · exact rest t1 q3 q4 q5 f1
  by_cases hp : t1.plain = true
  · first
      | (refine wpAny_bind (wp_if_pos hp (tup_byValue gx fun b => ?_)); exact ask b)
      | (refine wp_if_pos hp (wpAny_bind (tup_byValue gx fun b => ?_)); exact ask b)
  · first
      | (refine wpAny_bind (wp_if_neg hp (wpAny_pure ?_)); exact ask true)
      | (refine wp_if_neg hp (wpAny_bind (wpAny_pure ?_)); exact ask true)
      | (refine wp_if_neg hp ?_; exact ask true)
end
end N0

/-! B41: sorted(set(xs)), xs a list of pairs of a number and a text. -/
namespace N0
open PySem PySem.Spec PyProof.Rows L2
open SrtO
/-- a pair: where it stands, its number, its text -/
abbrev Pr := Addr × Int × List Nat
def keyP (p : Int × List Nat) : List Key := [Sum.inl p.1, Sum.inr (mkS p.2)]
theorem keyP_inj {p q : Int × List Nat} (h : keyP p = keyP q) : p = q := by
  unfold keyP at h
  injection h with h1 h2
  injection h2 with h2 _
  injection h1 with h1
  injection h2 with h2
  exact Prod.ext h1 (mkS_inj.mp h2)
def emb (p : Pr) : Addr × List Key := (p.1, keyP p.2)
/-- what the set has of the first i items -/
structure Has (ks : List Pr) (i : Nat) (L : List (Addr × List Key)) : Prop where
  sub : ∀ p ∈ L, p ∈ (ks.take i).map emb
  all : ∀ p ∈ ks.take i, keyP p.2 ∈ L.map (·.2)
  len : L.length ≤ i
theorem Has.next {ks : List Pr} {i : Nat} {x : Pr} {L L' : List (Addr × List Key)} (g : Has ks i L) (e : ks[i]? = some x) (c1 : keyP x.2 ∈ L.map (·.2) → L' = L) (c2 : keyP x.2 ∉ L.map (·.2) → L'.Perm (emb x :: L)) : Has ks (i + 1) L' := by
  have tk : ks.take (i + 1) = ks.take i ++ [x] := by rw [List.take_succ, e]; rfl
  by_cases h : keyP x.2 ∈ L.map (·.2)
  · rw [c1 h]
    refine ⟨fun p hp => ?_, fun p hp => ?_, Nat.le_succ_of_le g.len⟩
    · rw [tk, List.map_append]; exact List.mem_append_left _ (g.sub p hp)
    · rw [tk] at hp
      rcases List.mem_append.mp hp with z | z
      · exact g.all p z
      · rw [List.mem_singleton.mp z]; exact h
  · have pm := c2 h
    refine ⟨fun p hp => ?_, fun p hp => ?_, by rw [pm.length_eq, List.length_cons]; exact Nat.succ_le_succ g.len⟩
    · rw [tk, List.map_append]
      rcases List.mem_cons.mp (pm.mem_iff.mp hp) with z | z
      · rw [z]; exact List.mem_append_right _ (List.mem_singleton.mpr rfl)
      · exact List.mem_append_left _ (g.sub p z)
    · rw [(pm.map (·.2)).mem_iff, List.map_cons]
      rw [tk] at hp
      rcases List.mem_append.mp hp with z | z
      · exact List.mem_cons_of_mem _ (g.all p z)
      · rw [List.mem_singleton.mp z]; exact List.mem_cons_self
/-- a pair's object -/
def PrAt (P : Program) (w : World) (h : Heap) (p : Pr) : Prop := TupK P w h (keyP p.2) p.1
section
variable {P : Program} {w : World} {A : Around} {E : Value → Shared → Prop} {s : Shared}
theorem PrAt.is_ {h : Heap} {p : Pr} (g : PrAt P w h p) : IsIS h (.ref p.1) p.2.1 p.2.2 := by
  obtain ⟨o, its, n, e, c, d, are⟩ := g
  obtain ⟨l⟩ := its
  generalize hk : keyP p.2 = k at are
  cases are with
  | nil => exact absurd hk (by simp [keyP])
  | @cons k1 v1 ks vs a1 r1 =>
    cases r1 with
    | nil => exact absurd hk (by simp [keyP])
    | @cons k2 v2 ks2 vs2 a2 r2 =>
      cases r2 with
      | cons => exact absurd hk (by simp [keyP])
      | nil =>
        unfold keyP at hk
        injection hk with h1 h2
        injection h2 with h2 _
        subst h1 h2
        obtain ⟨t, rfl⟩ := Value.isInt_shape (k := p.2.1) (v := v1) a1
        obtain ⟨u, rfl⟩ := Value.isStrOf_shape (x := mkS p.2.2) (v := v2) a2
        exact ⟨p.1, o, t, u, n, rfl, e, c, d⟩
theorem pset_call {l : Addr} {items : Array Value} {ks : List Pr} {Q : Value → Shared → Prop} (calm : A.handled = none) (isl : s.heap.IsList l items) (are : items.toList = ks.map fun p => Value.ref p.1) (there : ∀ p ∈ ks, PrAt P w s.heap p) (few : ks.length < 64) (hu : A.units + 3 < cLine)
    (fin : ∀ (h' : Heap) (tk : Nat) L es ep t, PSet P w h' s.heap.objs.size L es ep t → Has ks ks.length L → (∀ b o, s.heap.get? b = some o → h'.get? b = some o) → Q (.ref s.heap.objs.size) { s with heap := h', toks := tk }) :
    wpAny (model P w) A (call (.type "set") [.ref l]) Q E s := by
  have len : items.size = ks.length := by
    have := congrArg List.length are
    rw [Array.length_toList, List.length_map] at this; exact this
  have back : ∀ {i : Nat} {L : List (Addr × List Key)}, Has ks i L → ∀ p ∈ L, TupK P w s.heap p.2 p.1 := fun g p hp => by
    obtain ⟨q, hq, rfl⟩ := List.mem_map.mp (g.sub p hp)
    exact there q (List.mem_of_mem_take hq)
  refine set_of_list (J := fun i h => ∃ L es ep t, PSet P w h s.heap.objs.size L es ep t ∧ Has ks i L) calm isl (fun i h h' ⟨L, es, ep, t, g, q⟩ kS kn => ?_) (fun h e _ => ?_) (fun B i v hB hv => ?_) (fun h' tk ⟨L, es, ep, t, g, q⟩ kn => ?_)
  · obtain ⟨o, e, r⟩ := g.obj
    exact ⟨L, es, ep, t, ⟨⟨o, kS o e, r⟩, g.row, g.tab, g.one, fun p hp => (back q p hp).kept kn, g.led, g.wide, g.few⟩, q⟩
  · refine ⟨[], #[], 0, _, ⟨⟨_, e, ⟨rfl, rfl, rfl⟩, rfl⟩, rfl, ⟨List.Pairwise.nil, rfl, rfl, .inl rfl, (fun x hx => nomatch hx), (fun i h j hi => by simp at hi)⟩, List.nodup_nil, (fun p hp => nomatch hp), ?_, (by show 0 * 5 < 7 * 3; decide), (by show 0 < 64; decide)⟩, (fun p hp => nomatch hp), (fun p hp => by simp at hp), Nat.le_refl _⟩
    show _ ∨ (!w.params.followText "set-order") = true
    cases w.params.followText "set-order"
    · exact .inr rfl
    · exact .inl rfl
  · obtain ⟨p, ep0, rfl⟩ : ∃ p, ks[i]? = some p ∧ v = .ref p.1 := by
      have q : items.toList[i]? = some v := by rw [Array.getElem?_toList]; exact hv
      rw [are, List.getElem?_map] at q
      cases h : ks[i]? with
      | none => rw [h] at q; cases q
      | some p => rw [h] at q; exact ⟨p, rfl, (Option.some.inj q).symm⟩
    have il : i < ks.length := (List.getElem?_eq_some_iff.mp ep0).1
    rintro u Q' E' ⟨L, es, ep, t, g, q⟩ kept fin'
    have gx : TupK P w u.heap (keyP p.2) p.1 := (there p (List.mem_of_getElem? ep0)).kept kept
    have hu' : B.units < cLine := by omega
    unfold setAdd
    refine wpAny_holding (wpAny_bind (wpAny_pyHash_tuple hu' gx ?_))
    refine pset_add (s := { u with toks := u.toks + ((keyP p.2).length + 1) }) g gx hu' (by have := q.len; omega) fun b h' L' es' ep' t' sb g' c1 c2 => ?_
    exact fin' b h' _ (Nat.le_add_right _ _) sb ⟨L', es', ep', t', g', q.next ep0 c1 c2⟩
  · rw [len] at q
    exact fin h' tk L es ep t g q kn
theorem pset_sorted {a : Addr} {L : List Pr} {es : Array (Int × Value)} {ep : Nat} {t : SetTable} {Q : Value → Shared → Prop} (g : PSet P w s.heap a (L.map emb) es ep t) (calm : A.handled = none)
    (fin : ∀ (s' : Shared) (p : Addr) (out : Array Value) (c : Nat) (zs : List Pr), (∀ b o, s.heap.get? b = some o → s'.heap.get? b = some o) → s'.gens = s.gens → s'.os = s.os → s.heap.objs.size ≤ p →
      s'.heap.get? p = some (seqObj "list" out c) → out.toList = zs.map (fun q => Value.ref q.1) → zs.Pairwise (fun q r => ltK q.2 r.2 = true) → (∀ q, q ∈ zs ↔ q ∈ L) → Q (.ref p) s') :
    wpAny (model P w) A (call (.builtin "sorted") [.ref a]) Q E s := by
  obtain ⟨o, at_, ex, dat⟩ := g.obj
  have sz := g.size
  have few := g.few
  rw [List.length_map] at sz few
  refine Calls.call_function_entry kind_sorted plain_sorted entry_sorted (args_sorted1 _) (?_ : wpAny _ _ _ _ _ _)
  unfold Builtin.«sorted»
  refine wpAny_bind (m := checkCount "sorted" 1 1 _) (wpAny_pure (?_ : wpAny _ _ _ _ _ _))
  refine wpAny_bind (collect_set (A := A.in1) calm ⟨o, at_, ex.1, dat⟩ g.fits (by unfold scanBound; omega) g.tab.ris g.led fun u vs k1 z1 g1 o1 pm => ?_)
  have ees : es.toList.map (·.2) = L.map fun q => Value.ref q.1 := by
    rw [g.row]
    unfold pairRows
    rw [List.map_map, List.map_map]; rfl
  rw [ees] at pm
  have at_L : ∀ q ∈ L, PrAt P w s.heap q := fun q hq => g.tup _ (List.mem_map.mpr ⟨q, hq, rfl⟩)
  -- an address has one pair
  have same : ∀ q ∈ L, ∀ r ∈ L, q.1 = r.1 → q = r := fun q hq r hr e => by
    have a1 := at_L q hq
    have a2 := at_L r hr
    unfold PrAt at a1 a2
    rw [e] at a1
    exact Prod.ext e (keyP_inj (a1.inj a2))
  have ndL : L.Nodup := by
    have h1 : (L.map emb).Nodup := nodup_of_map g.one
    exact (List.pairwise_map.mp h1).imp fun h z => h (by rw [z])
  have onekey : ∀ q ∈ L, ∀ r ∈ L, q.2 = r.2 → q = r := fun q hq r hr e => by
    obtain ⟨i, hi⟩ := List.mem_iff_getElem?.mp hq
    obtain ⟨j, hj⟩ := List.mem_iff_getElem?.mp hr
    obtain ⟨il, hi'⟩ := List.getElem?_eq_some_iff.mp hi
    obtain ⟨jl, hj'⟩ := List.getElem?_eq_some_iff.mp hj
    have hn := g.one
    rw [List.map_map] at hn
    have e2 : (L.map ((·.2) ∘ emb))[i]'(by rw [List.length_map]; exact il) = (L.map ((·.2) ∘ emb))[j]'(by rw [List.length_map]; exact jl) := by
      rw [List.getElem_map, List.getElem_map, hi', hj']
      show keyP q.2 = keyP r.2
      rw [e]
    have ij := (List.getElem_inj hn).mp e2
    subst ij
    rw [← hi', ← hj']
  have ndR : (L.map fun q => Value.ref q.1).Nodup := List.pairwise_map.mpr (List.Pairwise.imp_of_mem (fun {q r} hq hr hne e => by injection e with e; exact hne (same q hq r hr e)) ndL)
  have names : ∀ vs : List Value, (∀ v ∈ vs, v ∈ L.map fun q => Value.ref q.1) → ∃ zs : List Pr, vs = zs.map (fun q => Value.ref q.1) ∧ ∀ q ∈ zs, q ∈ L := by
    intro vs
    induction vs with
    | nil => exact fun _ => ⟨[], rfl, fun q h => nomatch h⟩
    | cons v vs ih =>
      intro hv
      obtain ⟨q, hq, e⟩ := List.mem_map.mp (hv v List.mem_cons_self)
      obtain ⟨zs, e1, hs⟩ := ih fun x hx => hv x (List.mem_cons_of_mem _ hx)
      exact ⟨q :: zs, by rw [List.map_cons, e, e1], fun r hr => (List.mem_cons.mp hr).elim (fun z => z ▸ hq) (hs r)⟩
  -- the key of a value
  obtain ⟨kf, hkf⟩ : ∃ kf : Value → Int × List Nat, ∀ q ∈ L, kf (.ref q.1) = q.2 := by
    refine ⟨fun v => ((L.find? fun q => decide (Value.ref q.1 = v)).map (·.2)).getD (0, []), fun q hq => ?_⟩
    cases h : L.find? fun r => decide (Value.ref r.1 = Value.ref q.1) with
    | none =>
      have := List.find?_eq_none.mp h q hq
      simp at this
    | some r =>
      have h1 := List.mem_of_find?_eq_some h
      have h2 := List.find?_some h
      have h3 : r.1 = q.1 := by
        have := of_decide_eq_true h2
        injection this
      show ((L.find? fun r => decide (Value.ref r.1 = Value.ref q.1)).map (·.2)).getD (0, []) = q.2
      rw [h]
      show r.2 = q.2
      rw [same r h1 q hq h3]
  have lv : vs.length = L.length := by rw [pm.length_eq, List.length_map]
  refine wpAny_bind (wpAny_newList (?_ : wpAny _ _ _ _ _ _) (by rw [lv, sizeLine_eq]; omega))
  have at1 : (u.heap.push (seqObj "list" vs.toArray 0)).get? u.heap.objs.size = some (seqObj "list" vs.toArray 0) := Heap.get?_push_size _ rfl
  have isv : ∀ v ∈ vs, IsIS (u.heap.push (seqObj "list" vs.toArray 0)) v (kf v).1 (kf v).2 := fun v hv => by
    obtain ⟨q, hq, rfl⟩ := List.mem_map.mp (pm.mem_iff.mp hv)
    rw [hkf q hq]
    have pq : PrAt P w (u.heap.push (seqObj "list" vs.toArray 0)) q := TupK.kept (at_L q hq) fun b x e => Heap.get?_push_of_some _ (k1 b x e)
    exact pq.is_
  refine wpAny_bind (wpAny_holding (wpAny_call_entry slot_list_sort ⟨_, at1, rfl⟩ entry_list_sort
    (list_sort_ord (s := { u with heap := u.heap.push (seqObj "list" vs.toArray 0) }) (ltv := fun v x => ltK (kf v) (kf x)) (ltK_swo kf) at1 (by rw [lv, sizeLine_eq]; omega) (fun two_ => is_sortable (s := { u with heap := u.heap.push (seqObj "list" vs.toArray 0) }) (by omega) isv fun x e c => ?_) fun out hs hb => ⟨_, rfl, ?_⟩) (args_list_sort _)))
  · have e' : some x = some (seqObj "list" vs.toArray 0) := e.symm.trans at1
    cases e'
    exact absurd (Value.type.inj c) (by decide)
  have pv : out.Perm vs := hb.perm
  obtain ⟨zs, rfl, hzs⟩ := names out fun v hv => pm.mem_iff.mp (pv.mem_iff.mp hv)
  have pz : (zs.map fun q => Value.ref q.1).Perm (L.map fun q => Value.ref q.1) := pv.trans pm
  have ndZ : (zs.map fun q => Value.ref q.1).Nodup := pz.nodup_iff.mpr ndR
  obtain ⟨c, hc⟩ := sortedHeap_at (vs := vs) (out := (zs.map fun q => Value.ref q.1).toArray) at1
  refine wpAny_pure ⟨_, rfl, fin _ u.heap.objs.size _ c zs (fun b x e => ?_) g1 o1 z1 hc (by simp) ?_ fun q => ⟨hzs q, fun hq => ?_⟩⟩
  · have lt := Heap.lt_size (k1 b x e)
    show (sortedHeap (u.heap.push (seqObj "list" vs.toArray 0)) u.heap.objs.size vs (zs.map fun q => Value.ref q.1).toArray).get? b = some x
    rw [sortedHeap_old (Nat.ne_of_lt lt) (by rw [size_push']; exact Nat.lt_succ_of_lt lt)]
    exact Heap.get?_push_of_some _ (k1 b x e)
  · have h1 : zs.Pairwise fun q r => ltK (kf (.ref r.1)) (kf (.ref q.1)) = false := List.pairwise_map.mp hs
    have h2 : zs.Pairwise fun q r => Value.ref q.1 ≠ Value.ref r.1 := List.pairwise_map.mp ndZ
    refine List.Pairwise.imp_of_mem (fun {q r} hq hr ⟨x, y⟩ => ?_) (h1.and h2)
    rw [hkf q (hzs q hq), hkf r (hzs r hr)] at x
    have ne : q.2 ≠ r.2 := fun z => y (by rw [onekey q (hzs q hq) r (hzs r hr) z])
    rw [ltK_no] at x
    rw [ltK_iff]
    rcases Int.lt_trichotomy q.2.1 r.2.1 with z | z | z
    · exact .inl z
    · refine .inr ⟨z, ?_⟩
      rcases lt_tri q.2.2 r.2.2 with z2 | z2 | z2
      · exact z2
      · exact absurd (Prod.ext z z2) ne
      · exact absurd (.inr ⟨z.symm, z2⟩) x
    · exact absurd (.inl z) x
  · obtain ⟨r, hr, e⟩ := List.mem_map.mp (pz.mem_iff.mpr (List.mem_map.mpr ⟨q, hq, rfl⟩))
    injection e with e
    rw [← same r (hzs r hr) q hq e]
    exact hr
end
/-! ### in the hands' words -/
def tSortSetP (K : PySem.W.Frag) (te : TE) : TE := fun σ H Q => te σ H fun x H1 => ∃ (l : Addr) (ks : List Pr), x = V.ref l ∧ SqL K H1 l (ks.map fun p => V.ref p.1) ∧ (∀ p ∈ ks, H1 p.1 = some (.tup [.int p.2.1, .str (mkS p.2.2)])) ∧ ks.length < 64 ∧
  ∀ (zs : List Pr) (pn : Addr), zs.Pairwise (fun q r => ltK q.2 r.2 = true) → (∀ q ∈ zs, q ∈ ks) → (∀ q, q ∈ zs.map (·.2) ↔ q ∈ ks.map (·.2)) → H1 pn = none → Q (.ref pn) (upd H1 pn (.lst (zs.map fun p => V.ref p.1)))
theorem g_sortSetP {K : PySem.W.Frag} {σ : L2.St} {H : Hp} {te : TE} {Q : VK} (h : te σ H fun x H1 => ∃ (l : Addr) (ks : List Pr), x = V.ref l ∧ SqL K H1 l (ks.map fun p => V.ref p.1) ∧ (∀ p ∈ ks, H1 p.1 = some (.tup [.int p.2.1, .str (mkS p.2.2)])) ∧ ks.length < 64 ∧
  ∀ (zs : List Pr) (pn : Addr), zs.Pairwise (fun q r => ltK q.2 r.2 = true) → (∀ q ∈ zs, q ∈ ks) → (∀ q, q ∈ zs.map (·.2) ↔ q ∈ ks.map (·.2)) → H1 pn = none → Q (.ref pn) (upd H1 pn (.lst (zs.map fun p => V.ref p.1)))) : tSortSetP K te σ H Q := h
theorem ref_vals : ∀ {ks : List Pr} {us : List Value}, Vals (ks.map fun p => V.ref p.1) us → us = ks.map fun p => Value.ref p.1
  | [], _, .nil => rfl
  | p :: ks, _, .cons r t => by
    cases r
    rw [ref_vals t]; rfl
theorem vals_ref : ∀ (ks : List Pr), Vals (ks.map fun p => V.ref p.1) (ks.map fun p => Value.ref p.1)
  | [] => .nil
  | p :: ks => .cons rfl (vals_ref ks)
section
variable {X : Cx}
theorem pr_at {pins : List (Addr × Obj)} {σ : L2.St} {H : Hp} {s : Shared} {p : Pr} (I : Inv X pins σ H s) (e : H p.1 = some (.tup [.int p.2.1, .str (mkS p.2.2)])) : PrAt X.prog X.w s.heap p := by
  obtain ⟨its, r, ⟨o, at_, c, n, d⟩, _⟩ := I.tuple (SqT.of e)
  obtain ⟨u1, u2, rfl, r1, r2⟩ := vals2 r
  obtain ⟨t1, rfl⟩ := r1
  obtain ⟨t2, rfl⟩ := r2
  exact ⟨o, _, n, at_, c, d, .cons (keyIs_int p.2.1 t1) (.cons (keyIs_str (mkS p.2.2) t2) .nil)⟩
theorem pe_sortSetP {a : Expr} {ta : TE} {p p2 q pos : Pos} (hc : X.calm = true) (hu : X.A.units + 64 < cLine) (g1 : Gl X "sorted") (m1 : X.mg "sorted" = none) (g2 : Gl X "set") (m2 : X.mg "set" = none) (ha : PE X a ta)
    (na : starEach [a] X.env = (false, eval a X.env) :: starEach [] X.env := by rfl) : PE X (.Call (.Name "sorted" p) [.Call (.Name "set" p2) [a] [] q] [] pos) (tSortSetP X.K ta) := by
  refine ⟨fun pins s σ H Q I h => Call_ (ld_blt I g1 m1 PyProof.Rows.boot_sorted (PyProof.Rows.callWith_builtin1 (PyProof.Rows.args_cons ?_ rfl) rfl rfl))⟩
  refine Call_ (ld_blt I g2 m2 PyProof.Rows.boot_set (PyProof.Rows.callWith_type1 (PyProof.Rows.args_cons (thn (ha.run pins s σ H _ I h) fun v u ⟨x, H1, I1, r1, y⟩ => PyProof.Rows.args_nil ?_) na) na rfl))
  obtain ⟨l, ks, rfl, sq, objs, few, k⟩ := y
  cases r1
  obtain ⟨its, rv, pl, hz⟩ := I1.list sq
  refine pset_call (P := X.prog) (w := X.w) (I1.ok.hd hc) pl.isList (ks := ks) (by simpa using ref_vals rv) (fun p hp => pr_at I1 (objs p hp)) few (by omega) fun h' tk L es ep t g has kn => PyProof.Rows.args_nil ?_
  have I2 : Inv X pins σ H1 { u with heap := h', toks := tk } := I1.kept kn
  rw [show ks.length = ks.length from rfl] at has
  obtain ⟨L0, rfl, sub0⟩ : ∃ L0 : List Pr, L = L0.map emb ∧ ∀ q ∈ L0, q ∈ ks := by
    have hs : ∀ p ∈ L, ∃ q ∈ ks, p = emb q := fun p hp => by
      obtain ⟨q, hq, e⟩ := List.mem_map.mp (has.sub p hp)
      exact ⟨q, List.mem_of_mem_take hq, e.symm⟩
    clear g has
    induction L with
    | nil => exact ⟨[], rfl, fun q h => nomatch h⟩
    | cons p L ih =>
      obtain ⟨q, hq, e⟩ := hs p List.mem_cons_self
      obtain ⟨L0, e0, h0⟩ := ih fun r hr => hs r (List.mem_cons_of_mem _ hr)
      exact ⟨q :: L0, by rw [List.map_cons, e, e0], fun r hr => (List.mem_cons.mp hr).elim (fun z => z ▸ hq) (h0 r)⟩
  have fewL : L0.length ≤ ks.length := by have := has.len; rw [List.length_map] at this; exact this
  refine pset_sorted g (I1.ok.hd hc) fun s' pn out c zs k2 gg oo hp at_ eo up mem => ?_
  have lz : zs.length < 64 := by
    have nd : zs.Nodup := up.imp fun {q r} h z => by
      rw [z, ltK_iff] at h
      rcases h with h | h
      · omega
      · exact List.lt_irrefl _ h.2
    have := nd.length_le_of_subset (fun q hq => (mem q).mp hq : zs ⊆ L0)
    omega
  refine ⟨.ref pn, _, inv_newList (ys := zs.map fun p => V.ref p.1) I2 k2 gg oo hp at_ (by rw [eo]; exact vals_ref zs) (by rw [List.length_map, sizeLine_eq]; omega), rfl, k zs pn up (fun q hq => sub0 q ((mem q).mp hq)) (fun q => ⟨fun h => ?_, fun h => ?_⟩) (I2.hok.fresh hp)⟩
  · obtain ⟨r, hr, rfl⟩ := List.mem_map.mp h
    exact List.mem_map.mpr ⟨r, sub0 r ((mem r).mp hr), rfl⟩
  · obtain ⟨r, hr, rfl⟩ := List.mem_map.mp h
    have := has.all r (by rw [List.take_length]; exact hr)
    rw [List.map_map] at this
    obtain ⟨r2, hr2, e⟩ := List.mem_map.mp this
    have e2 : r2.2 = r.2 := keyP_inj e
    exact List.mem_map.mpr ⟨r2, (mem r2).mpr hr2, e2⟩
end
end N0

/-! B42: what is due by the rows; lists emptied. -/
namespace N0
open PySem PySem.Spec PyProof.Rows L2
theorem g_clear {l : Addr} {xs : List V} {H : Hp} {Q : VK} (h : H l = some (.lst xs)) (q : Q .non (upd H l (.lst []))) : rClear (.ref l) [] H Q := ⟨l, xs, rfl, rfl, h, q⟩
/-- far, and the word -/
def dueP (l : List Nat) (w : List Nat) : Int × List Nat := (((Lv.lev l w : Nat) : Int), w)
theorem dueP_lt {l a b : List Nat} : ltK (dueP l a) (dueP l b) = true ↔ nearLt l a b := by
  rw [ltK_iff]
  unfold nearLt dueP
  show ((Lv.lev l a : Nat) : Int) < ((Lv.lev l b : Nat) : Int) ∨ (((Lv.lev l a : Nat) : Int) = ((Lv.lev l b : Nat) : Int) ∧ a < b) ↔ _
  constructor
  · rintro (h | ⟨h, k⟩)
    · exact .inl (by omega)
    · exact .inr ⟨by omega, k⟩
  · rintro (h | ⟨h, k⟩)
    · exact .inl (by omega)
    · exact .inr ⟨by omega, k⟩
/-- the items within the most -/
def within (m : Nat) (zs : List Pr) : List Pr := zs.filter fun q => decide (q.2.1 ≤ ((m : Nat) : Int))
theorem within_snoc {m : Nat} {zs : List Pr} {q : Pr} : within m (zs ++ [q]) = within m zs ++ if q.2.1 ≤ ((m : Nat) : Int) then [q] else [] := by
  unfold within
  rw [List.filter_append]
  by_cases h : q.2.1 ≤ ((m : Nat) : Int)
  · rw [if_pos h, List.filter_cons_of_pos (by simpa using h), List.filter_nil]
  · rw [if_neg h, List.filter_cons_of_neg (by simpa using h), List.filter_nil]
theorem within_few {m : Nat} {zs : List Pr} : (within m zs).length ≤ zs.length := List.length_filter_le _ _
theorem due_key {l : List Nat} {ws : List (List Nat)} {zs : List Pr} (mem : ∀ q, q ∈ zs.map (·.2) ↔ q ∈ ws.map (dueP l)) {q : Pr} (h : q ∈ zs) : q.2 = dueP l q.2.2 := by
  obtain ⟨w, _, e⟩ := List.mem_map.mp ((mem q.2).mp (List.mem_map.mpr ⟨q, h, rfl⟩))
  rw [← e]; rfl
theorem due_near {l : List Nat} {m : Nat} {ws : List (List Nat)} {zs : List Pr} (up : zs.Pairwise fun q r => ltK q.2 r.2 = true) (mem : ∀ q, q ∈ zs.map (·.2) ↔ q ∈ ws.map (dueP l)) : NearW ws m l ((within m zs).map (·.2.2)) := by
  have key : ∀ q ∈ zs, q.2 = dueP l q.2.2 := fun q h => due_key mem h
  refine ⟨List.pairwise_map.mpr (List.Pairwise.imp_of_mem (fun {q r} hq hr h => ?_) (up.filter _)), fun w => ?_⟩
  · have h1 := key q (List.mem_filter.mp hq).1
    have h2 := key r (List.mem_filter.mp hr).1
    rw [h1, h2] at h
    exact dueP_lt.mp h
  · rw [List.mem_map]
    constructor
    · rintro ⟨q, hq, rfl⟩
      obtain ⟨h1, h2⟩ := List.mem_filter.mp hq
      have h2 := of_decide_eq_true h2
      obtain ⟨w, hw, e⟩ := List.mem_map.mp ((mem q.2).mp (List.mem_map.mpr ⟨q, h1, rfl⟩))
      have e1 : q.2.2 = w := by rw [← e]; rfl
      have e2 : q.2.1 = ((Lv.lev l w : Nat) : Int) := by rw [← e]; rfl
      rw [e1]
      exact ⟨hw, by rw [e2] at h2; omega⟩
    · rintro ⟨hw, hm⟩
      obtain ⟨q, hq, e⟩ := List.mem_map.mp ((mem (dueP l w)).mpr (List.mem_map.mpr ⟨w, hw, rfl⟩))
      refine ⟨q, List.mem_filter.mpr ⟨hq, decide_eq_true ?_⟩, by rw [e]; rfl⟩
      rw [e]
      show ((Lv.lev l w : Nat) : Int) ≤ _
      omega
theorem NearW.sameW {W ws : List (List Nat)} {m : Nat} {l : List Nat} {vs : List (List Nat)} (a : NearW W m l vs) (h : SameW W ws) : NearW ws m l vs := ⟨a.up, fun w => by rw [a.mem w, h w]⟩
def spGood : Sp := fun vs H Q _ => ∃ (p k : Addr) (xs : List V) (ws : List (List Nat)) (l : List Nat) (m : Nat) (H0 : Hp) (D0 : Addr) (us : List (List Nat)), vs = [.ref p, .ref k, .str (mkS l), .int (m : Nat)] ∧ H p = some (.lst xs) ∧ H k = some (.lst (wordsV ws)) ∧ Each (NearV H0 D0 l H) xs us ∧ NearW ws m l us ∧ AllW ws ∧ ws.length < 64 ∧ l.length ≤ 24 ∧ ∀ H', Same H H' → Q (.bl true) H'
/-- pairs that hold a list made behind H0 -/
def Hold (H0 : Hp) (D : Addr) (H : Hp) (xs : List V) : Prop := ∀ x ∈ xs, ∃ a w q cs, x = .ref a ∧ H a = some (.tup [.str (mkS w), .ref q]) ∧ H q = some (.lst cs) ∧ H0 q = none ∧ q ≠ D
theorem hold_of {H0 H : Hp} {D : Addr} {l : List Nat} {xs : List V} {us : List (List Nat)} (e : Each (NearV H0 D l H) xs us) : Hold H0 D H xs := fun x hx => by
  obtain ⟨w, _, a, p, cs, os, e1, e2, e3, _, _, _, _, e8, e9⟩ := e.mem hx
  exact ⟨a, w, p, cs, e1, e2, e3, e8, e9⟩
theorem Hold.same {H0 H H' : Hp} {D : Addr} {xs : List V} (h : Hold H0 D H xs) (s : Same H H') : Hold H0 D H' xs := fun x hx => by
  obtain ⟨a, w, q, cs, e1, e2, e3, e4, e5⟩ := h x hx
  exact ⟨a, w, q, cs, e1, s _ _ e2, s _ _ e3, e4, e5⟩
theorem Hold.clear {H0 H : Hp} {D p : Addr} {xs cs : List V} (h : Hold H0 D H xs) (hp : H p = some (.lst cs)) : Hold H0 D (upd H p (.lst [])) xs := fun x hx => by
  obtain ⟨a, w, q, ds, e1, e2, e3, e4, e5⟩ := h x hx
  have na : a ≠ p := fun z => by rw [z, hp] at e2; cases e2
  by_cases hq : q = p
  · exact ⟨a, w, q, [], e1, by rw [upd_ne na]; exact e2, by rw [hq, upd_same], e4, e5⟩
  · exact ⟨a, w, q, ds, e1, by rw [upd_ne na]; exact e2, by rw [upd_ne hq]; exact e3, e4, e5⟩
end N0
namespace My
open PySem PySem.Spec PyProof.Rows L2 L2H N0

local macro_rules | `(tactic| walk_at "v1") => `(tactic| first
  | with_reducible refine' g_seq ?_
  | with_reducible refine' g_set ?_
  | with_reducible refine' g_asg ?_
  | with_reducible refine' g_BM ?_
  | with_reducible refine' g_ret ?_
  | with_reducible refine' g_retN ?_
  | with_reducible refine' g_drop ?_
  | with_reducible refine' g_ifS ?_
  | with_reducible refine' g_next ?_
  | ((with_reducible refine' g_var ?gh ?_); (case gh => exact rfl))
  | with_reducible refine' g_op ?_
  | with_reducible refine' g_cA ?_
  | with_reducible refine' g_cM ?_
  | with_reducible refine' g_cS ?_
  | with_reducible refine' g_c ?_
  | with_reducible refine' g_I0 ?_
  | ((with_reducible refine' g_I ?gh ?_); (case gh => first | (show (0 : Int) < _; omega) | exact ⟨by omega, by omega⟩ | exact Or.inl ⟨by omega, by omega⟩ | exact Or.inr ⟨by omega, by omega⟩))
  | with_reducible refine' g_eqI ?_
  | with_reducible refine' g_neI ?_
  | with_reducible refine' g_eqS ?_
  | with_reducible refine' g_neS ?_
  | with_reducible refine' g_eqB ?_
  | with_reducible refine' g_neB ?_
  | with_reducible refine' g_test ?_
  | with_reducible refine' g_B ?_
  | with_reducible refine' g_bl ?_
  | with_reducible refine' g_ifT ?_
  | with_reducible refine' g_ifF ?_
  | with_reducible refine' g_ifNT ?_
  | with_reducible refine' g_ifNF ?_
  | with_reducible refine' g_and ?_
  | with_reducible refine' g_or ?_
  | with_reducible refine' g_not ?_
  | with_reducible refine' g_andV ?_
  | with_reducible refine' g_orV ?_
  | with_reducible refine' g_notV ?_
  | with_reducible refine' g_ifE ?_
  | with_reducible refine' g_chain ?_
  | with_reducible refine' g_cons ?_
  | with_reducible refine' g_nil ?_
  | with_reducible refine' g_CB ?_
  | with_reducible refine' g_call ?_
  | with_reducible refine' g_callS ?_
  | with_reducible refine' g_callZ ?_
  | with_reducible refine' g_noPart ?_
  | with_reducible refine' g_part ?_
  | with_reducible refine' g_int ?_
  | with_reducible refine' g_Sl ?_
  | with_reducible refine' g_un ?_
  | with_reducible refine' g_U ?_
  | with_reducible refine' g_isN ?_
  | with_reducible refine' g_notN ?_
  | ((with_reducible refine' g_addS ?gh ?_); (case gh => first | omega | (simp only [List.length_append, List.length_cons, List.length_nil, List.length_take, List.length_drop]; omega) | decide +kernel))
  | ((with_reducible refine' g_lenL ?gh ?_); (case gh => first | exact Or.inl (by assumption) | exact Or.inr (by assumption)))
  | with_reducible refine' g_inS ?_
  | with_reducible refine' g_notInS ?_
  | ((with_reducible refine' g_lenS ?gh ?_); (case gh => first | assumption | omega | (simp only [List.length_append, List.length_cons, List.length_nil, List.length_take, List.length_drop]; omega) | decide +kernel))
  | ((with_reducible refine' g_SlTo ?g0 ?gh ?_); (case g0 => omega); (case gh => first | assumption | omega))
  | ((with_reducible refine' g_SlFrom ?g0 ?gh ?_); (case g0 => omega); (case gh => first | assumption | omega))
  | ((with_reducible refine' g_eqK ?gh ?_); (case gh => first | assumption | exact Kn.int _ | exact Kn.str _ | exact Kn.non | exact Kn.bl _))
  | ((with_reducible refine' g_neK ?gh ?_); (case gh => first | assumption | exact Kn.int _ | exact Kn.str _ | exact Kn.non | exact Kn.bl _))
  | ((with_reducible refine' g_SlS ?gh ?_); (case gh => first | assumption | omega | (simp only [List.length_append, List.length_cons, List.length_nil, List.length_take, List.length_drop]; omega)))
  | ((with_reducible refine' g_isKb (b := true) ?gh ?gu ?gb ?_); (case gh => first | assumption | exact Kn.int _ | exact Kn.str _ | exact Kn.non | exact Kn.bl _); (case gu => decide); (case gb => first | assumption | decide))
  | ((with_reducible refine' g_isKb (b := false) ?gh ?gu ?gb ?_); (case gh => first | assumption | exact Kn.int _ | exact Kn.str _ | exact Kn.non | exact Kn.bl _); (case gu => decide); (case gb => first | assumption | decide))
  | ((with_reducible refine' g_isK ?gh ?gu ?_); (case gu => decide); (case gh => first | assumption | exact Kn.int _ | exact Kn.str _ | exact Kn.non | exact Kn.bl _))
  | with_reducible refine' g_for ?_
  | with_reducible refine' g_iR1 ?_
  | with_reducible refine' g_iL ?_
  | with_reducible refine' g_iT ?_
  | with_reducible refine' g_iES ?_
  | with_reducible refine' g_iETp ?_
  | with_reducible refine' g_iKeys ?_
  | with_reducible refine' g_iItems ?_
  | with_reducible refine' g_fld ?_
  | with_reducible refine' g_sfld ?_
  | with_reducible refine' g_fldaug ?_
  | with_reducible refine' g_dget ?_
  | with_reducible refine' g_dnotin ?_
  | with_reducible refine' g_din ?_
  | with_reducible refine' g_dput ?_
  | with_reducible refine' g_ddel ?_
  | with_reducible refine' g_meth ?_
  | with_reducible refine' g_methE ?_
  | with_reducible refine' g_truth ?_
  | ((with_reducible refine' g_aug ?gh ?_); (case gh => exact rfl))
  | ((with_reducible refine' g_ixT ?gh ?ga ?_); (case gh => assumption); (case ga => rfl))
  | fail)
local macro_rules | `(tactic| walk_at "no") => `(tactic| (exfalso; first | contradiction | omega | (simp only [List.length_cons, List.length_nil, List.length_append, List.length_map] at *; omega)))
local macro_rules | `(tactic| walk_at "vi") => `(tactic| (first | (refine g_if (fun h => ?_) (fun h => ?_)) | (refine g_ifN (fun h => ?_) (fun h => ?_)) | (refine g_ifB (fun h => ?_) (fun h => ?_))) <;> (first | (walk_at "no"; done) | skip))
local macro_rules | `(tactic| walk_at "split") => `(tactic| first | (refine g_if (fun h => ?_) (fun h => ?_)) | (refine g_ifN (fun h => ?_) (fun h => ?_)) | (refine g_ifB (fun h => ?_) (fun h => ?_)))
local macro_rules | `(tactic| walk_at "dfs") => `(tactic| repeat' (first | assumption | walk_at "v1" | walk_at "split"))
local macro_rules | `(tactic| walk_at "its") => `(tactic| repeat' (first
  | exact itA_nil | exact goA_nil | refine itA_cons ?_ ?_ | refine goA_cons ?_ ?_
  | exact itE_int | exact itE_bl | exact itE_non | exact itE_str (by decide +kernel) | exact itE_neg | exact itE_dK
  | (refine itE_var rfl ?_; first | assumption | exact itG_int _ | exact itG_bl _ | exact itG_non)
  | exact goE_int | exact goE_non | exact goE_str
  | refine itE_lst itA_nil (by decide)
  | refine itE_lst (itA_cons ?_ itA_nil) (by decide)
  | refine itE_lst (itA_cons ?_ (itA_cons ?_ itA_nil)) (by decide)
  | refine itE_lst (itA_cons ?_ (itA_cons ?_ (itA_cons ?_ itA_nil))) (by decide)
  | refine itE_lst (itA_cons ?_ (itA_cons ?_ (itA_cons ?_ (itA_cons ?_ itA_nil)))) (by decide)
  | refine itE_tup itA_nil (by decide)
  | refine itE_tup (itA_cons ?_ itA_nil) (by decide)
  | refine itE_tup (itA_cons ?_ (itA_cons ?_ itA_nil)) (by decide)
  | refine itE_tup (itA_cons ?_ (itA_cons ?_ (itA_cons ?_ itA_nil))) (by decide)
  | refine itE_tup (itA_cons ?_ (itA_cons ?_ (itA_cons ?_ (itA_cons ?_ itA_nil)))) (by decide)
  | refine goE_tup itA_nil (by decide)
  | refine goE_tup (itA_cons ?_ itA_nil) (by decide)
  | refine goE_tup (itA_cons ?_ (itA_cons ?_ itA_nil)) (by decide)
  | refine goE_tup (itA_cons ?_ (itA_cons ?_ (itA_cons ?_ itA_nil))) (by decide)
  | refine goE_tup (itA_cons ?_ (itA_cons ?_ (itA_cons ?_ (itA_cons ?_ itA_nil)))) (by decide)
  | refine goE_lst itA_nil (by decide)
  | refine goE_lst (itA_cons ?_ itA_nil) (by decide)
  | refine goE_lst (itA_cons ?_ (itA_cons ?_ itA_nil)) (by decide)
  | refine goE_lst (itA_cons ?_ (itA_cons ?_ (itA_cons ?_ itA_nil))) (by decide)
  | refine goE_lst (itA_cons ?_ (itA_cons ?_ (itA_cons ?_ (itA_cons ?_ itA_nil)))) (by decide)
  | decide))
local macro_rules | `(tactic| walk_at "u") => `(tactic| repeat walk_at "v1")
local macro_rules | `(tactic| walk_at "v") => `(tactic| repeat (first | walk_at "v1" | with_reducible refine' g_tup ?_ | with_reducible refine' g_lst ?_))
def top (i : Nat) : Stmt := PySem.Challenge.pw_nearword_k11_whole_near_by_rows.main.body.getD i (.Pass ⟨0, 0, 0, 0⟩)
abbrev s_wall : Stmt := top 0
abbrev n_wall : List Str := ["k"]
theorem sc_wall : FnScope n_wall ["k"] (defScope s_wall) := ⟨rfl, rfl, rfl, by decide +kernel, rfl, by decide +kernel, by decide +kernel⟩
abbrev s_is_letter : Stmt := top 9
abbrev n_is_letter : List Str := ["thing"]
theorem sc_is_letter : FnScope n_is_letter ["thing"] (defScope s_is_letter) := ⟨rfl, rfl, rfl, by decide +kernel, rfl, by decide +kernel, by decide +kernel⟩
abbrev s_is_word : Stmt := top 10
abbrev n_is_word : List Str := ["thing"]
theorem sc_is_word : FnScope n_is_word ["thing"] (defScope s_is_word) := ⟨rfl, rfl, rfl, by decide +kernel, rfl, by decide +kernel, by decide +kernel⟩
abbrev s_check_word : Stmt := top 11
abbrev n_check_word : List Str := ["thing"]
theorem sc_check_word : FnScope n_check_word ["thing"] (defScope s_check_word) := ⟨rfl, rfl, rfl, by decide +kernel, rfl, by decide +kernel, by decide +kernel⟩
abbrev s_first_row : Stmt := top 13
abbrev n_first_row : List Str := ["word"]
theorem sc_first_row : FnScope n_first_row ["word"] (defScope s_first_row) := ⟨rfl, rfl, rfl, by decide +kernel, rfl, by decide +kernel, by decide +kernel⟩
abbrev s_next_row : Stmt := top 14
abbrev n_next_row : List Str := ["above", "letter", "word", "row", "at", "sign", "unlike"]
theorem sc_next_row : FnScope n_next_row ["above", "letter", "word"] (defScope s_next_row) := ⟨rfl, rfl, rfl, by decide +kernel, rfl, by decide +kernel, by decide +kernel⟩
abbrev s_table : Stmt := top 15
abbrev n_table : List Str := ["one", "other", "rows", "letter"]
theorem sc_table : FnScope n_table ["one", "other"] (defScope s_table) := ⟨rfl, rfl, rfl, by decide +kernel, rfl, by decide +kernel, by decide +kernel⟩
abbrev s_way : Stmt := top 16
abbrev n_way : List Str := ["one", "other", "rows", "changes", "down", "across", "here"]
theorem sc_way : FnScope n_way ["one", "other"] (defScope s_way) := ⟨rfl, rfl, rfl, by decide +kernel, rfl, by decide +kernel, by decide +kernel⟩
abbrev s_near : Stmt := top 18
abbrev n_near : List Str := ["tree", "word", "most", "found", "text", "kept", "away"]
theorem sc_near : FnScope n_near ["tree", "word", "most"] (defScope s_near) := ⟨rfl, rfl, rfl, by decide +kernel, rfl, by decide +kernel, by decide +kernel⟩
abbrev s_looked_at : Stmt := top 19
abbrev n_looked_at : List Str := ["tree", "word", "most", "seen", "ahead", "text", "node", "row", "letter", "child"]
theorem sc_looked_at : FnScope n_looked_at ["tree", "word", "most"] (defScope s_looked_at) := ⟨rfl, rfl, rfl, by decide +kernel, rfl, by decide +kernel, by decide +kernel⟩
abbrev s_check_most : Stmt := top 20
abbrev n_check_most : List Str := ["thing"]
theorem sc_check_most : FnScope n_check_most ["thing"] (defScope s_check_most) := ⟨rfl, rfl, rfl, by decide +kernel, rfl, by decide +kernel, by decide +kernel⟩
abbrev s_path : Stmt := top 25
abbrev n_path : List Str := ["top", "word", "path", "letter", "node"]
theorem sc_path : FnScope n_path ["top", "word"] (defScope s_path) := ⟨rfl, rfl, rfl, by decide +kernel, rfl, by decide +kernel, by decide +kernel⟩
abbrev s_prune : Stmt := top 26
abbrev n_prune : List Str := ["path", "word", "at", "node", "parent"]
theorem sc_prune : FnScope n_prune ["path", "word"] (defScope s_prune) := ⟨rfl, rfl, rfl, by decide +kernel, rfl, by decide +kernel, by decide +kernel⟩
abbrev s_words_from : Stmt := top 27
abbrev n_words_from : List Str := ["node", "text", "words", "letter"]
theorem sc_words_from : FnScope n_words_from ["node", "text"] (defScope s_words_from) := ⟨rfl, rfl, rfl, by decide +kernel, rfl, by decide +kernel, by decide +kernel⟩
abbrev s_law_at : Stmt := top 29
abbrev n_law_at : List Str := ["_law_script", "_law_k"]
theorem sc_law_at : FnScope n_law_at ["_law_script", "_law_k"] (defScope s_law_at) := ⟨rfl, rfl, rfl, by decide +kernel, rfl, by decide +kernel, by decide +kernel⟩
abbrev s_law_whole : Stmt := top 30
abbrev n_law_whole : List Str := ["_law_thing"]
theorem sc_law_whole : FnScope n_law_whole ["_law_thing"] (defScope s_law_whole) := ⟨rfl, rfl, rfl, by decide +kernel, rfl, by decide +kernel, by decide +kernel⟩
abbrev s_law_letter : Stmt := top 31
abbrev n_law_letter : List Str := ["_law_mode", "_law_number", "_law_span", "_law_step_here"]
theorem sc_law_letter : FnScope n_law_letter ["_law_mode", "_law_number"] (defScope s_law_letter) := ⟨rfl, rfl, rfl, by decide +kernel, rfl, by decide +kernel, by decide +kernel⟩
abbrev s_law_word : Stmt := top 32
abbrev n_law_word : List Str := ["_law_mode", "_law_cell", "_law_most", "_law_size", "_law_found", "_law_k"]
theorem sc_law_word : FnScope n_law_word ["_law_mode", "_law_cell", "_law_most"] (defScope s_law_word) := ⟨rfl, rfl, rfl, by decide +kernel, rfl, by decide +kernel, by decide +kernel⟩
abbrev s_law_bent : Stmt := top 33
abbrev n_law_bent : List Str := ["_law_mode", "_law_word_here", "_law_cell", "_law_k", "_law_more", "_law_at_here", "_law_letter_here"]
theorem sc_law_bent : FnScope n_law_bent ["_law_mode", "_law_word_here", "_law_cell"] (defScope s_law_bent) := ⟨rfl, rfl, rfl, by decide +kernel, rfl, by decide +kernel, by decide +kernel⟩
abbrev s_law_words : Stmt := top 34
abbrev n_law_words : List Str := ["_law_script", "_law_mode", "_law_k", "_law_most", "_law_cells", "_law_words_here", "_law_cell"]
theorem sc_law_words : FnScope n_law_words ["_law_script"] (defScope s_law_words) := ⟨rfl, rfl, rfl, by decide +kernel, rfl, by decide +kernel, by decide +kernel⟩
abbrev s_law_asked : Stmt := top 35
abbrev n_law_asked : List Str := ["_law_script", "_law_words_here", "_law_cell"]
theorem sc_law_asked : FnScope n_law_asked ["_law_script", "_law_words_here"] (defScope s_law_asked) := ⟨rfl, rfl, rfl, by decide +kernel, rfl, by decide +kernel, by decide +kernel⟩
abbrev s_law_tree : Stmt := top 36
abbrev n_law_tree : List Str := ["_law_words_here", "_law_tree_here", "_law_word_here"]
theorem sc_law_tree : FnScope n_law_tree ["_law_words_here"] (defScope s_law_tree) := ⟨rfl, rfl, rfl, by decide +kernel, rfl, by decide +kernel, by decide +kernel⟩
abbrev s_law_step : Stmt := top 37
abbrev n_law_step : List Str := ["_law_text", "_law_change", "_law_place", "_law_letter_here"]
theorem sc_law_step : FnScope n_law_step ["_law_text", "_law_change"] (defScope s_law_step) := ⟨rfl, rfl, rfl, by decide +kernel, rfl, by decide +kernel, by decide +kernel⟩
abbrev s_law_led : Stmt := top 38
abbrev n_law_led : List Str := ["_law_text", "_law_changes", "_law_change"]
theorem sc_law_led : FnScope n_law_led ["_law_text", "_law_changes"] (defScope s_law_led) := ⟨rfl, rfl, rfl, by decide +kernel, rfl, by decide +kernel, by decide +kernel⟩
abbrev s_law_next : Stmt := top 39
abbrev n_law_next : List Str := ["_law_row", "_law_letter_here", "_law_word_here", "_law_found", "_law_at_here", "_law_more"]
theorem sc_law_next : FnScope n_law_next ["_law_row", "_law_letter_here", "_law_word_here"] (defScope s_law_next) := ⟨rfl, rfl, rfl, by decide +kernel, rfl, by decide +kernel, by decide +kernel⟩
abbrev s_law_far : Stmt := top 40
abbrev n_law_far : List Str := ["_law_one", "_law_other", "_law_row", "_law_letter_here"]
theorem sc_law_far : FnScope n_law_far ["_law_one", "_law_other"] (defScope s_law_far) := ⟨rfl, rfl, rfl, by decide +kernel, rfl, by decide +kernel, by decide +kernel⟩
abbrev s_law_good : Stmt := top 41
abbrev n_law_good : List Str := ["_law_found", "_law_words_here", "_law_asked_here", "_law_most", "_law_due", "_law_one", "_law_pair", "_law_wanted"]
theorem sc_law_good : FnScope n_law_good ["_law_found", "_law_words_here", "_law_asked_here", "_law_most"] (defScope s_law_good) := ⟨rfl, rfl, rfl, by decide +kernel, rfl, by decide +kernel, by decide +kernel⟩
abbrev s_law : Stmt := top 42
abbrev n_law : List Str := ["_law_script", "_law_words_here", "_law_word_here", "_law_most", "_law_tree_here", "_law_k", "_law_gone", "_law_one", "_law_asked_here", "_law_found", "_law_pair", "_law_new"]
theorem sc_law : FnScope n_law ["_law_script"] (defScope s_law) := ⟨rfl, rfl, rfl, by decide +kernel, rfl, by decide +kernel, by decide +kernel⟩
abbrev s_Node___init__ : Stmt := inClass (top 23) 0
abbrev n_Node___init__ : List Str := ["self"]
theorem sc_Node___init__ : FnScope n_Node___init__ ["self"] (defScope s_Node___init__) := ⟨rfl, rfl, rfl, by decide +kernel, rfl, by decide +kernel, by decide +kernel⟩
abbrev s_Tree___init__ : Stmt := inClass (top 24) 0
abbrev n_Tree___init__ : List Str := ["self"]
theorem sc_Tree___init__ : FnScope n_Tree___init__ ["self"] (defScope s_Tree___init__) := ⟨rfl, rfl, rfl, by decide +kernel, rfl, by decide +kernel, by decide +kernel⟩
abbrev s_Tree_put : Stmt := inClass (top 24) 1
abbrev n_Tree_put : List Str := ["self", "word", "node", "letter"]
theorem sc_Tree_put : FnScope n_Tree_put ["self", "word"] (defScope s_Tree_put) := ⟨rfl, rfl, rfl, by decide +kernel, rfl, by decide +kernel, by decide +kernel⟩
abbrev s_Tree_take : Stmt := inClass (top 24) 2
abbrev n_Tree_take : List Str := ["self", "word", "path", "node"]
theorem sc_Tree_take : FnScope n_Tree_take ["self", "word"] (defScope s_Tree_take) := ⟨rfl, rfl, rfl, by decide +kernel, rfl, by decide +kernel, by decide +kernel⟩
abbrev s_Tree_has : Stmt := inClass (top 24) 3
abbrev n_Tree_has : List Str := ["self", "word", "path"]
theorem sc_Tree_has : FnScope n_Tree_has ["self", "word"] (defScope s_Tree_has) := ⟨rfl, rfl, rfl, by decide +kernel, rfl, by decide +kernel, by decide +kernel⟩
abbrev s_Tree_words : Stmt := inClass (top 24) 4
abbrev n_Tree_words : List Str := ["self"]
theorem sc_Tree_words : FnScope n_Tree_words ["self"] (defScope s_Tree_words) := ⟨rfl, rfl, rfl, by decide +kernel, rfl, by decide +kernel, by decide +kernel⟩
abbrev s_Tree_begun : Stmt := inClass (top 24) 5
abbrev n_Tree_begun : List Str := ["self", "begin"]
theorem sc_Tree_begun : FnScope n_Tree_begun ["self", "begin"] (defScope s_Tree_begun) := ⟨rfl, rfl, rfl, by decide +kernel, rfl, by decide +kernel, by decide +kernel⟩
abbrev s_Tree_many : Stmt := inClass (top 24) 6
abbrev n_Tree_many : List Str := ["self"]
theorem sc_Tree_many : FnScope n_Tree_many ["self"] (defScope s_Tree_many) := ⟨rfl, rfl, rfl, by decide +kernel, rfl, by decide +kernel, by decide +kernel⟩
abbrev s_Tree_nodes : Stmt := inClass (top 24) 7
abbrev n_Tree_nodes : List Str := ["self"]
theorem sc_Tree_nodes : FnScope n_Tree_nodes ["self"] (defScope s_Tree_nodes) := ⟨rfl, rfl, rfl, by decide +kernel, rfl, by decide +kernel, by decide +kernel⟩
abbrev s_Tree_top : Stmt := inClass (top 24) 8
abbrev n_Tree_top : List Str := ["self"]
theorem sc_Tree_top : FnScope n_Tree_top ["self"] (defScope s_Tree_top) := ⟨rfl, rfl, rfl, by decide +kernel, rfl, by decide +kernel, by decide +kernel⟩
structure Bi (mg : Str → Option Value) : Prop where
  n_len : mg "len" = none
  n_range : mg "range" = none
  n_isinstance : mg "isinstance" = none
  n_int : mg "int" = none
  n_bool : mg "bool" = none
  n_str : mg "str" = none
  n_min : mg "min" = none
  n_list : mg "list" = none
  n_tuple : mg "tuple" = none
  n_all : mg "all" = none
  n_enumerate : mg "enumerate" = none
  n_sorted : mg "sorted" = none
  n_set : mg "set" = none
  n_zip : mg "zip" = none
  n_reversed : mg "reversed" = none
  c_LETTERS : ∃ t, mg "LETTERS" = some (.str (mkS alpha) t)
  c_MOST_LETTERS : ∃ t, mg "MOST_LETTERS" = some (.int 24 t)
  c_MOST_WORDS : ∃ t, mg "MOST_WORDS" = some (.int 400 t)
section
variable {P : Program} {w : World} {K : PySem.W.Frag} {mg : Str → Option Value} {base : Heap}
theorem d_is_word (A : At K mg "is_word" s_is_word) (bi : Bi mg) {c T : Addr} (ca : CodeAt K mg "is_word" c) (tb : GxR.TabB base mg c T) (lr : Mod K mg base → LetRaw P w K mg base) : Dd P w K mg base CX0 1 "is_word" ["thing"] (spIsWord T) := by
  have sc := sc_is_word
  refine A.okT ca sc (fun _ _ _ _ _ _ us hl => match us, hl with | [_], _ => rfl) (fun vs H Q E h => ?_) (fun f A outer s H vs Q E hr h => ?_)
  · obtain ⟨_, _, rfl, _⟩ := h; rfl
  have hu := hu_of hr
  obtain ⟨tM, c_MOST_LETTERS⟩ := bi.c_MOST_LETTERS
  obtain ⟨x, U, rfl, k, hs, hT, q⟩ := h
  refine ⟨_, (pss_cons (ps_if (PW.pt (pw_or (pt_not (pt_val (pe_callB call_isK (by rfl) bi.n_isinstance (by decide +kernel) (pa_cons (pv 0) (pa_cons (pe_bltn (v := .ty "str") (by rfl) bi.n_str (by decide +kernel) rfl) pa_nil))))) (pw_or1 (pt_cmpR op_gt (pe_callB c_lenS (by rfl) bi.n_len (by decide +kernel) (pa_cons (pv 0) pa_nil)) (pe_glob (v := .int 24) (by rfl) c_MOST_LETTERS ⟨_, rfl⟩) (nomark _))))) (pss_one (ps_ret pe_bl)) pss_nil)
  (pss_one (ps_ret (pe_all1 hr rfl bi.n_all tb rfl (gens_of rfl rfl (by decide +kernel) rfl rfl (by decide +kernel)) (pv 0) (fun env A E c t s m hs hg hh hd M hb hn hm => let_elt M (lr M) (by rw [hs] <;> rfl) hg (by rw [hs] <;> rfl) (by rw [hs] <;> rfl) (Nat.lt_of_le_of_lt hd (depth1 hr)) hb hn hm) (fun _ => rfl))))), ?_⟩
  refine g_start (show L2.start _ _ = [some _] from rfl) ?_
  by_cases hU : U = "str"
  · cases k with
    | str z =>
      obtain ⟨l, rfl⟩ : ∃ y, z = mkS y := ⟨_, mkS_of z⟩
      have hl : l.length ≤ 1000 := by rw [← mkS_len]; exact hs
      walk_at "v"
      refine g_if (fun h => ?_) (fun h => ?_)
      · walk_at "v"
        rw [wordB_str, decide_eq_false (by omega), Bool.false_and] at q
        exact q
      · walk_at "v"
        refine g_all1 rfl hT ?_
        rw [wordB_str, decide_eq_true (by omega), Bool.true_and] at q
        exact q
    | _ => exact absurd hU (by decide)
  · have e : isK U "str" = false := by simp [isK, hU]
    walk_at "v"
    rw [wordB_kn k hU] at q
    exact q
theorem lr_is_letter (A : At K mg "is_letter" s_is_letter) (bi : Bi mg) (M : Mod K mg base) : LetRaw P w K mg base :=
  let_raw M A ⟨rfl, rfl, rfl, by decide +kernel, rfl, rfl, rfl, rfl, rfl⟩ ⟨bi.n_isinstance, bi.n_str, bi.n_len, bi.c_LETTERS⟩ (fun _ _ _ _ _ _ us hl => match us, hl with | [_], _ => rfl) rfl
theorem d_check_word (A : At K mg "check_word" s_check_word) (bi : Bi mg) {C T : Addr} (x_BadWord : Xc K mg "BadWord" C) (d_is_word : Dd P w K mg base CX0 1 "is_word" ["thing"] (spIsWord T)) : Dd P w K mg base (L2.CX P w) 2 "check_word" ["thing"] (spCheck C T) := by
  have sc := sc_check_word
  refine A.okX sc (fun _ _ _ _ _ _ us hl => match us, hl with | [_], _ => rfl) (fun vs H Q E h => ?_) (fun f cdv A outer s H vs Q E hr h => ?_)
  · obtain ⟨_, _, rfl, _⟩ := h; rfl
  have hu := hu_of hr
  have tk := takes_of (X := cxOf (L2.CX P w) P w K mg base n_check_word "check_word" (defScope s_check_word) f cdv A outer s H E) rfl rfl rfl rfl
  obtain ⟨x, U, rfl, k, hs, hT, q1, q2⟩ := h
  refine ⟨_, (pss_one (ps_if (pt_not (pt_val (pe_callD d_is_word (hr.mono (by decide)) rfl pass0 (pa_cons (pv 0) pa_nil)))) (pss_one (ps_raise rfl tk (pmk_own PySem.F.excBase_ValueError x_BadWord.ex x_BadWord.g x_BadWord.kp (raises_own x_BadWord.sb x_BadWord.ty) (by rfl)))) pss_nil)), ?_⟩
  refine g_start (show L2.start _ _ = [some _] from rfl) ?_
  walk_at "v"
  refine ⟨x, U, rfl, k, hs, hT, ?_⟩
  walk_at "v"
  cases e : wordB x with
  | true =>
    walk_at "v"
    exact q1 e
  | false =>
    walk_at "v"
    exact q2 e
theorem d_first_row (A : At K mg "first_row" s_first_row) (bi : Bi mg) : Dd P w K mg base CX0 1 "first_row" ["word"] (spFirst) := by
  have sc := sc_first_row
  refine A.ok sc (fun _ _ _ _ _ _ us hl => match us, hl with | [_], _ => rfl) (fun vs H Q E h => ?_) (fun f cdv A outer s H vs Q E hr h => ?_)
  · obtain ⟨_, rfl, _⟩ := h; rfl
  have hu := hu_of hr
  obtain ⟨l, rfl, hl, q⟩ := h
  refine ⟨_, (pss_one (ps_ret (pe_listRg rfl (by rfl) bi.n_list (prg_1 (by rfl) bi.n_range (pe_op op_add (pe_callB c_lenS (by rfl) bi.n_len (by decide +kernel) (pa_cons (pv 0) pa_nil)) pe_int))))), ?_⟩
  refine g_start (show L2.start _ _ = [some _] from rfl) ?_
  walk_at "u"
  refine g_listRg ?_
  walk_at "u"
  refine ⟨RgOk.of_le (by omega) (by omega) (by omega) (by omega), fun D hD => ?_⟩
  rw [rg_row]
  exact q D _ (Same.new hD) hD upd_same
theorem d_next_row (A : At K mg "next_row" s_next_row) (bi : Bi mg) : Dd P w K mg base CX0 1 "next_row" ["above", "letter", "word"] (spNext K) := by
  have sc := sc_next_row
  refine A.ok sc (fun _ _ _ _ _ _ us hl => match us, hl with | [_, _, _], _ => rfl) (fun vs H Q E h => ?_) (fun f cdv A outer s H vs Q E hr h => ?_)
  · obtain ⟨_, _, _, _, rfl, _⟩ := h; rfl
  have hu := hu_of hr
  obtain ⟨a, p, b, c, rfl, hS, hb, q⟩ := h
  refine ⟨_, (pss_cons (ps_set (i := 3) sc.nd rfl (Or.inl rfl) (pe_lst (pa_cons (pe_op op_add (pe_ix ix_list (pv 0) pe_int (fun _ _ => rfl)) pe_int) pa_nil)))
  (pss_cons (ps_for PassesOwn.never rfl (pi_enumS (by rfl) bi.n_enumerate (pa_cons (pv 2) pa_nil)) (pg_tup rfl (pgs_cons (pg_name (i := 4) sc.nd rfl (Or.inl rfl)) (pgs_cons (pg_name (i := 5) sc.nd rfl (Or.inl rfl)) pgs_nil))) (Evl.pss_cut (ps_set (i := 6) sc.nd rfl (Or.inl rfl) (pe_ifExp (pt_cmpR op_eq (pv 5) (pv 1) (nomark _)) pe_int pe_int))
  (pss_one (ps_expr (pe_bm PySem.F.plainAttrs_list PySem.F.slot_list_append PySem.F.type_list_append mt_append (pv 3) (pa_cons (pe_callB (c_min3 rfl) (by rfl) bi.n_min (by decide +kernel) (pa_cons (pe_op op_add (pe_ix ix_list (pv 3) (pv 4) (fun _ _ => rfl)) pe_int) (pa_cons (pe_op op_add (pe_ix ix_list (pv 0) (pe_op op_add (pv 4) pe_int) (fun _ _ => rfl)) pe_int) (pa_cons (pe_op op_add (pe_ix ix_list (pv 0) (pv 4) (fun _ _ => rfl)) (pv 6)) pa_nil)))) pa_nil))))))
  (pss_one (ps_ret (pv 3))))), ?_⟩
  refine g_start (show L2.start _ _ = [some _, some _, some _, none, none, none, none] from rfl) ?_
  walk_at "v"
  refine g_ixL hS (at_ofN (by decide) (rowV_get (row_zero p b))) ?_
  walk_at "u"
  refine ⟨by show 1 ≤ sizeLine; decide, fun D hD => ?_⟩
  walk_at "u"
  refine g_enS (fun i σ' H' => ∃ v1 v2 v3, σ' = [some (.ref a), some (.str (mkS [c])), some (.str (mkS b)), some (.ref D), v1, v2, v3] ∧ Same H H' ∧ H' D = some (.lst (rowV ((Lv.row (p ++ [c]) b).take (i + 1))))) ⟨none, none, none, rfl, Same.new hD, by rw [row_first]; exact upd_same⟩ ?_ ?_
  · rintro i y σ' H' T0 hy ⟨v1, v2, v3, rfl, s0, hD'⟩ hT0
    have hi2 : i < b.length := (List.getElem?_eq_some_iff.mp hy).1
    refine g_pair (SqT.of upd_same) ?_
    have s1 : Same H (upd H' T0 (.tup [.int (i : Nat), .str (mkS [y])])) := s0.trans (Same.new hT0)
    have hD1 : upd H' T0 (.tup [.int (i : Nat), .str (mkS [y])]) D = some (.lst (rowV ((Lv.row (p ++ [c]) b).take (i + 1)))) := by rw [upd_ne (ne_of_none hD' hT0)]; exact hD'
    generalize upd H' T0 (.tup [.int (i : Nat), .str (mkS [y])]) = H1 at s1 hD1
    refine g_cut (fun σ3 H3 => σ3 = [some (.ref a), some (.str (mkS [c])), some (.str (mkS b)), some (.ref D), some (.int (i : Nat)), some (.str (mkS [y])), some (.int ((if y = c then 0 else 1 : Nat)))] ∧ H3 = H1) ?_ ?_
    · walk_at "u"
      refine g_if (fun h => ?_) (fun h => ?_)
      · have e : y = c := by injection h
        walk_at "u"
        exact ⟨by rw [if_pos e]; rfl, rfl⟩
      · have e : ¬ y = c := fun z => h (by rw [z])
        walk_at "u"
        exact ⟨by rw [if_neg e]; rfl, rfl⟩
    · rintro σ3 H3 ⟨rfl, rfl⟩
      walk_at "u"
      refine ⟨Or.inl ⟨rfl, _, SqL.of hD1⟩, ?_⟩
      walk_at "u"
      refine g_ixL (SqL.of hD1) (at_ofN (by omega) (rowV_get (by rw [List.getElem?_take_of_lt (by omega)]; exact Lv.row_get (by omega)))) ?_
      walk_at "u"
      refine g_ixL (s1.seq hS) (at_ofN (by omega) (by rw [show ((i : Int) + 1).toNat = i + 1 from rfl]; exact rowV_get (Lv.row_get (by omega)))) ?_
      walk_at "u"
      refine g_ixL (s1.seq hS) (at_ofN (by omega) (rowV_get (Lv.row_get (by omega)))) ?_
      walk_at "u"
      refine g_min3 (Int.natCast_add _ 1).symm (Int.natCast_add _ 1).symm (Int.natCast_add _ _).symm ?_
      walk_at "u"
      refine g_append hD1 (by rw [rowV_len, List.length_take]; omega) ?_
      walk_at "u"
      refine ⟨_, _, _, rfl, Same.wr s1 hD, ?_⟩
      rw [upd_same, row_step hy]
      simp only [rowV, List.map_append, List.map_cons, List.map_nil]
      congr 4
      simp only [Int.toNat_natCast]
      congr 2
      omega
  · rintro σ' H' ⟨v1, v2, v3, rfl, s0, hD'⟩
    walk_at "u"
    refine q D H' s0 hD ?_
    rw [hD', List.take_of_length_le (by rw [Lv.row_len]; omega)]
theorem d_table (A : At K mg "table" s_table) (bi : Bi mg) {C T : Addr} (x_BadWord : Xc K mg "BadWord" C) (d_check_word : Dd P w K mg base (L2.CX P w) 2 "check_word" ["thing"] (spCheck C T)) (d_first_row : Dd P w K mg base CX0 1 "first_row" ["word"] (spFirst)) (d_next_row : Dd P w K mg base CX0 1 "next_row" ["above", "letter", "word"] (spNext K)) : Dd P w K mg base (L2.CX P w) 3 "table" ["one", "other"] (spTwoW C T wTable) := by
  have sc := sc_table
  refine A.okX sc (fun _ _ _ _ _ _ us hl => match us, hl with | [_, _], _ => rfl) (fun vs H Q E h => ?_) (fun f cdv A outer s H vs Q E hr h => ?_)
  · obtain ⟨_, _, _, _, rfl, _⟩ := h; rfl
  have hu := hu_of hr
  have tk := takes_of (X := cxOf (L2.CX P w) P w K mg base n_table "table" (defScope s_table) f cdv A outer s H E) rfl rfl rfl rfl
  obtain ⟨x, y, U, W, rfl, kx, hx, ky, hy, hT, q, n⟩ := h
  refine ⟨_, (pss_cons (ps_expr (pe_callDS d_check_word (hr.mono (by decide)) rfl (fun σ => passAt tk σ) (by exact (pa_cons (pv 0) pa_nil))))
  (pss_cons (ps_expr (pe_callDS d_check_word (hr.mono (by decide)) rfl (fun σ => passAt tk σ) (by exact (pa_cons (pv 1) pa_nil))))
  (pss_cons (ps_set (i := 2) sc.nd rfl (Or.inl rfl) (pe_lst (pa_cons (pe_callD d_first_row (hr.mono (by decide)) rfl pass0 (pa_cons (pv 1) pa_nil)) pa_nil)))
  (pss_cons (ps_for (passes_of rfl) rfl (pi_str (pv 0)) (pg_name (i := 3) sc.nd rfl (Or.inl rfl)) (pss_one (ps_expr (pe_bm PySem.F.plainAttrs_list PySem.F.slot_list_append PySem.F.type_list_append mt_append (pv 2) (pa_cons (pe_callD d_next_row (hr.mono (by decide)) rfl pass0 (pa_cons (pe_ix ix_list (pv 2) (pe_un un_neg pe_int) (fun _ _ => rfl)) (pa_cons (pv 3) (pa_cons (pv 1) pa_nil)))) pa_nil)))))
  (pss_one (ps_ret (pv 2))))))), ?_⟩
  refine g_start (show L2.start _ _ = [some _, some _, none, none] from rfl) ?_
  walk_at "u"
  refine ⟨x, U, rfl, kx, hx, hT, fun ok1 => ?_, fun no1 => n (.inl no1) H (Same.refl _)⟩
  walk_at "u"
  refine ⟨y, W, rfl, ky, hy, hT, fun ok2 => ?_, fun no2 => n (.inr no2) H (Same.refl _)⟩
  obtain ⟨l, rfl, hw, hl⟩ := wordB_inv ok1
  obtain ⟨r, rfl, hw2, hl2⟩ := wordB_inv ok2
  have q := q l r rfl rfl hw hw2 hl hl2
  walk_at "v"
  refine ⟨r, rfl, by omega, fun D0 H1 s1 hD0 e0 => ?_⟩
  walk_at "u"
  refine ⟨by show 1 ≤ sizeLine; decide, fun D hD1 => ?_⟩
  have hD : H D = none := s1.free hD1
  walk_at "u"
  refine g_txt rfl (fun i σ' H' => ∃ (qs : List Addr) (v : Option V), σ' = [some (.str (mkS l)), some (.str (mkS r)), some (.ref D), v] ∧ Same H H' ∧ H' D = some (.lst (qs.map V.ref)) ∧ qs.length = i + 1 ∧
    ∀ (k : Nat) q, qs[k]? = some q → H' q = some (.lst (rowV (Lv.row (l.take k) r))) ∧ H q = none ∧ q ≠ D) ⟨[D0], none, rfl, s1.trans (Same.new hD1), upd_same, rfl, ?_⟩ ?_ ?_
  · intro k q hk
    match k, hk with
    | 0, hk =>
      injection hk with hk
      subst hk
      have hne : D0 ≠ D := ne_of_none e0 hD1
      exact ⟨by rw [upd_ne hne]; exact e0, hD0, hne⟩
  · rintro i c σ' H' hc ⟨qs, v, rfl, s0, eD, hq, er⟩
    have hi : i < l.length := (List.getElem?_eq_some_iff.mp hc).1
    obtain ⟨q1, hq1⟩ : ∃ q1, qs[i]? = some q1 := ⟨qs[i]'(by omega), List.getElem?_eq_getElem _⟩
    obtain ⟨e1, f1, n1⟩ := er i q1 hq1
    walk_at "u"
    refine ⟨Or.inl ⟨rfl, _, SqL.of eD⟩, ?_⟩
    walk_at "u"
    refine g_ixL (SqL.of eD) (atI_neg1 (by rw [List.length_map]; exact hq) (by rw [List.getElem?_map, hq1]; rfl)) ?_
    walk_at "u"
    refine ⟨q1, l.take i, r, c, rfl, SqL.of e1, by omega, fun D2 H2 s2 hD2 e2 => ?_⟩
    walk_at "u"
    have nD2 : D2 ≠ D := (ne_of_none eD hD2).symm
    refine g_append (s2 _ _ eD) (by rw [List.length_map]; omega) ?_
    walk_at "u"
    refine ⟨qs ++ [D2], _, rfl, Same.wr (s0.trans s2) hD, by rw [upd_same, List.map_append]; rfl, by rw [List.length_append, hq]; rfl, ?_⟩
    intro k q hk
    by_cases hlt : k < qs.length
    · rw [List.getElem?_append_left hlt] at hk
      obtain ⟨a1, a2, a3⟩ := er k q hk
      exact ⟨by rw [upd_ne a3]; exact s2 _ _ a1, a2, a3⟩
    · rw [List.getElem?_append_right (by omega)] at hk
      obtain ⟨h9, h8⟩ := List.getElem?_eq_some_iff.mp hk
      have hk0 : k = i + 1 := by simp at h9; omega
      have hkb : q = D2 := by rw [← h8]; simp
      subst hk0 hkb
      refine ⟨?_, s0.free hD2, nD2⟩
      rw [upd_ne nD2, e2, List.take_succ, hc]
      rfl
  · rintro σ' H' ⟨qs, v, rfl, s0, eD, hq, er⟩
    walk_at "u"
    exact q D qs H' s0 hD (fun q0 h0 => by obtain ⟨k, hk, ek⟩ := List.getElem_of_mem h0; obtain ⟨_, a2, a3⟩ := er k q0 (by rw [List.getElem?_eq_getElem hk, ek]); exact ⟨a2, a3⟩) ⟨eD, hq, fun i q0 h0 => (er i q0 h0).1⟩
theorem d_way (A : At K mg "way" s_way) (bi : Bi mg) {C T : Addr} (d_table : Dd P w K mg base (L2.CX P w) 3 "table" ["one", "other"] (spTwoW C T wTable)) : Dd P w K mg base (L2.CX P w) 4 "way" ["one", "other"] (spTwoW C T wWay) := by
  have sc := sc_way
  refine A.okX sc (fun _ _ _ _ _ _ us hl => match us, hl with | [_, _], _ => rfl) (fun vs H Q E h => ?_) (fun f cdv A outer s H vs Q E hr h => ?_)
  · obtain ⟨_, _, _, _, rfl, _⟩ := h; rfl
  have hu := hu_of hr
  have tk := takes_of (X := cxOf (L2.CX P w) P w K mg base n_way "way" (defScope s_way) f cdv A outer s H E) rfl rfl rfl rfl
  obtain ⟨x, y, U, W, rfl, kx, hx, ky, hy, hT, q, n⟩ := h
  refine ⟨_, (pss_cons (ps_set (i := 2) sc.nd rfl (Or.inl rfl) (pe_callDS d_table (hr.mono (by decide)) rfl (fun σ => passAt tk σ) (by exact (pa_cons (pv 0) (pa_cons (pv 1) pa_nil)))))
  (pss_cons (ps_set (i := 3) sc.nd rfl (Or.inl rfl) (pe_lst pa_nil))
  (pss_cons (ps_set (i := 4) sc.nd rfl (Or.inl rfl) (pe_callB c_lenS (by rfl) bi.n_len (by decide +kernel) (pa_cons (pv 0) pa_nil)))
  (pss_cons (ps_set (i := 5) sc.nd rfl (Or.inl rfl) (pe_callB c_lenS (by rfl) bi.n_len (by decide +kernel) (pa_cons (pv 1) pa_nil)))
  (pss_cons (ps_while (passes_of rfl) (PW.pt (pw_or (pt_cmpR op_gt (pv 4) pe_int (nomark _)) (pw_or1 (pt_cmpR op_gt (pv 5) pe_int (nomark _))))) (Evl.pss_cut (ps_set (i := 6) sc.nd rfl (Or.inl rfl) (pe_ix ix_list (pe_ix ix_list (pv 2) (pv 4) (fun _ _ => rfl)) (pv 5) (fun _ _ => rfl)))
  (pss_one (ps_if (PW.pt (pw_and (pt_cmpR op_gt (pv 4) pe_int (nomark _)) (pw_and (pt_cmpR op_gt (pv 5) pe_int (nomark _)) (pw_and1 (pt_cmpR op_eq (pe_ix ix_str (pv 0) (pe_op op_sub (pv 4) pe_int) (fun _ _ => rfl)) (pe_ix ix_str (pv 1) (pe_op op_sub (pv 5) pe_int) (fun _ _ => rfl)) (nomark _)))))) (pss_cons (ps_aug (i := 4) sc.nd rfl (Or.inl rfl) pe_int ip_sub)
  (pss_one (ps_aug (i := 5) sc.nd rfl (Or.inl rfl) pe_int ip_sub))) (pss_one (ps_if (PW.pt (pw_and (pt_cmpR op_gt (pv 4) pe_int (nomark _)) (pw_and (pt_cmpR op_gt (pv 5) pe_int (nomark _)) (pw_and1 (pt_cmpR op_eq (pe_op op_add (pe_ix ix_list (pe_ix ix_list (pv 2) (pe_op op_sub (pv 4) pe_int) (fun _ _ => rfl)) (pe_op op_sub (pv 5) pe_int) (fun _ _ => rfl)) pe_int) (pv 6) (nomark _)))))) (pss_cons (ps_expr (pe_bm PySem.F.plainAttrs_list PySem.F.slot_list_append PySem.F.type_list_append mt_append (pv 3) (pa_cons (pe_tup (pa_cons pe_str (pa_cons (pe_op op_sub (pv 4) pe_int) (pa_cons (pe_ix ix_str (pv 1) (pe_op op_sub (pv 5) pe_int) (fun _ _ => rfl)) pa_nil)))) pa_nil)))
  (pss_cons (ps_aug (i := 4) sc.nd rfl (Or.inl rfl) pe_int ip_sub)
  (pss_one (ps_aug (i := 5) sc.nd rfl (Or.inl rfl) pe_int ip_sub)))) (pss_one (ps_if (PW.pt (pw_and (pt_cmpR op_gt (pv 4) pe_int (nomark _)) (pw_and1 (pt_cmpR op_eq (pe_op op_add (pe_ix ix_list (pe_ix ix_list (pv 2) (pe_op op_sub (pv 4) pe_int) (fun _ _ => rfl)) (pv 5) (fun _ _ => rfl)) pe_int) (pv 6) (nomark _))))) (pss_cons (ps_expr (pe_bm PySem.F.plainAttrs_list PySem.F.slot_list_append PySem.F.type_list_append mt_append (pv 3) (pa_cons (pe_tup (pa_cons pe_str (pa_cons (pe_op op_sub (pv 4) pe_int) pa_nil))) pa_nil)))
  (pss_one (ps_aug (i := 4) sc.nd rfl (Or.inl rfl) pe_int ip_sub))) (pss_cons (ps_expr (pe_bm PySem.F.plainAttrs_list PySem.F.slot_list_append PySem.F.type_list_append mt_append (pv 3) (pa_cons (pe_tup (pa_cons pe_str (pa_cons (pv 4) (pa_cons (pe_ix ix_str (pv 1) (pe_op op_sub (pv 5) pe_int) (fun _ _ => rfl)) pa_nil)))) pa_nil)))
  (pss_one (ps_aug (i := 5) sc.nd rfl (Or.inl rfl) pe_int ip_sub)))))))))))
  (pss_one (ps_ret (pv 3)))))))), ?_⟩
  refine g_start (show L2.start _ _ = [some _, some _, none, none, none, none, none] from rfl) ?_
  walk_at "u"
  refine ⟨x, y, U, W, rfl, kx, hx, ky, hy, hT, fun l r e1 e2 hw hw2 hl hl2 p qs H1 s1 hp hq t => ?_, n⟩
  have qq := q l r e1 e2 hw hw2 hl hl2
  subst e1 e2
  walk_at "v"
  refine ⟨by decide, fun D hD1 => ?_⟩
  have hD : H D = none := s1.free hD1
  walk_at "u"
  refine g_while (fun m σ' H' => ∃ (d a : Nat) (v : Option V) (xs : List V) (os : List (Option (List V))), σ' = [some (.str (mkS l)), some (.str (mkS r)), some (.ref p), some (.ref D), some (.int (d : Nat)), some (.int (a : Nat)), v] ∧ m = d + a ∧ d ≤ l.length ∧ a ≤ r.length ∧
    Same H1 H' ∧ H' D = some (.lst xs) ∧ xs.length = os.length ∧ (∀ (i : Nat) x o, xs[i]? = some x → os[i]? = some o → Cg H' x o) ∧ ledR l os = some (mid l r d a) ∧ os.length + Lv.lev (l.take d) (r.take a) = Lv.lev l r)
    _ ⟨l.length, r.length, none, [], [], rfl, rfl, Nat.le_refl _, Nat.le_refl _, Same.new hD1, upd_same, rfl, fun i x o h => by simp at h, by rw [mid, List.take_length, List.drop_length, List.append_nil]; rfl, by rw [List.take_length, List.take_length]; simp⟩ ?_
  rintro m σ' H' ⟨d, a, v, xs, os, rfl, rfl, hd, ha, s0, eD, hlen, hc, hled, hn⟩
  have t' := t.same s0
  have most := Lv.lev_most l r
  have fin : ¬ 0 < d → ¬ 0 < a → Q (.ref D) H' := fun h1 h2 => by
    have d0 : d = 0 := by omega
    have a0 : a = 0 := by omega
    subst d0 a0
    have e0 : mid l r 0 0 = r := by simp [mid]
    rw [e0] at hled
    have e1 : Lv.lev (l.take 0) (r.take 0) = 0 := by simp [Lv.lev_nil_left]
    exact qq D xs os H' (s1.trans s0) hD eD hlen hc hled (by omega)
  -- a turn with a change v of members ys to the word mid d' a'
  have step : ∀ (ys : List V) (d' a' : Nat) (T0 : Addr) (v : Option V), H' T0 = none → d' + a' < d + a → d' ≤ l.length → a' ≤ r.length → (∀ v ∈ ys, Sh v ∧ ∃ T, Kn H' v T) → stepR (mid l r d a) (some ys) = some (mid l r d' a') → Lv.lev (l.take d') (r.take a') + 1 = Lv.lev (l.take d) (r.take a) →
    ∃ m', m' < d + a ∧ ∃ (d2 a2 : Nat) (v2 : Option V) (xs2 : List V) (os2 : List (Option (List V))), [some (V.str (mkS l)), some (.str (mkS r)), some (.ref p), some (.ref D), some (.int (d' : Nat)), some (.int (a' : Nat)), v] = [some (.str (mkS l)), some (.str (mkS r)), some (.ref p), some (.ref D), some (.int (d2 : Nat)), some (.int (a2 : Nat)), v2] ∧ m' = d2 + a2 ∧ d2 ≤ l.length ∧ a2 ≤ r.length ∧
    Same H1 (upd (upd H' T0 (.tup ys)) D (.lst (xs ++ [.ref T0]))) ∧ upd (upd H' T0 (.tup ys)) D (.lst (xs ++ [.ref T0])) D = some (.lst xs2) ∧ xs2.length = os2.length ∧ (∀ (i : Nat) x o, xs2[i]? = some x → os2[i]? = some o → Cg (upd (upd H' T0 (.tup ys)) D (.lst (xs ++ [.ref T0]))) x o) ∧ ledR l os2 = some (mid l r d2 a2) ∧ os2.length + Lv.lev (l.take d2) (r.take a2) = Lv.lev l r := by
    intro ys d' a' T0 v hT0 hlt hd' ha' hk hst hlv
    have nT : T0 ≠ D := (ne_of_none eD hT0).symm
    have kp : ∀ x u, H' x = some u → x ≠ D → upd (upd H' T0 (.tup ys)) D (.lst (xs ++ [.ref T0])) x = some u := fun x u e n => by rw [upd_ne n, upd_ne (ne_of_none e hT0)]; exact e
    have kk : ∀ {v : V} {Tn : String}, Kn H' v Tn → Kn (upd (upd H' T0 (.tup ys)) D (.lst (xs ++ [.ref T0]))) v Tn := fun {v Tn} k => by
      cases k with
      | non => exact .non
      | bl b => exact .bl b
      | int i => exact .int i
      | str z => exact .str z
      | @lst x zs e =>
        by_cases hx : x = D
        · subst hx; exact .lst upd_same
        · exact .lst (kp _ _ e hx)
      | @tup x zs e => exact .tup (kp _ _ e (fun z => by rw [z, eD] at e; cases e))
      | @dK x zs e => exact .dK (kp _ _ e (fun z => by rw [z, eD] at e; cases e))
    refine ⟨d' + a', hlt, d', a', v, xs ++ [.ref T0], os ++ [some ys], rfl, rfl, hd', ha', Same.wr (s0.trans (Same.new hT0)) hD1, upd_same, by rw [List.length_append, List.length_append, hlen]; rfl, ?_, ?_, ?_⟩
    · intro i x o hx ho
      by_cases hi : i < xs.length
      · rw [List.getElem?_append_left hi] at hx
        rw [List.getElem?_append_left (by omega)] at ho
        have c := hc i x o hx ho
        cases c with
        | no k nn => exact .no (kk k) nn
        | @tup z zs e k => exact .tup (kp _ _ e (fun q => by rw [q, eD] at e; cases e)) fun v hv => let ⟨y, Tn, k1⟩ := k v hv; ⟨y, Tn, kk k1⟩
      · rw [List.getElem?_append_right (by omega)] at hx ho
        have e9 : i - xs.length = 0 := by
          have := (List.getElem?_eq_some_iff.mp hx).1
          simp at this; omega
        rw [e9] at hx
        rw [show i - os.length = 0 by omega] at ho
        injection hx with hx
        injection ho with ho
        subst hx ho
        exact .tup (by rw [upd_ne nT]; exact upd_same) fun v hv => let ⟨y, Tn, k1⟩ := hk v hv; ⟨y, Tn, kk k1⟩
    · rw [ledR_app, hled]
      exact (ledR_one _ _).trans hst
    · rw [List.length_append, List.length_cons, List.length_nil]; omega
  refine g_testTo (b0 := decide (0 < d ∨ 0 < a)) (fun QB qb => ?_) ?_
  · walk_at "u"
    refine g_if (fun h1 => ?_) (fun h1 => ?_)
    · rw [decide_eq_true (.inl (by omega))] at qb; exact qb
    · walk_at "u"
      have e : decide ((a : Int) > 0) = decide (0 < d ∨ 0 < a) := by rw [Bool.eq_iff_iff, decide_eq_true_iff, decide_eq_true_iff]; omega
      rw [e]; exact qb
  refine g_if (fun hz => ?_) (fun hz => ?_)
  rotate_left
  · walk_at "u"
    exact fin (by omega) (by omega)
  refine g_turn ?_
  obtain ⟨qd, _, gd, ed⟩ := t'.at (i := d) hd
  refine g_cut (fun σ3 H3 => σ3 = [some (.str (mkS l)), some (.str (mkS r)), some (.ref p), some (.ref D), some (.int (d : Nat)), some (.int (a : Nat)), some (.int ((Lv.lev (l.take d) (r.take a) : Nat)))] ∧ H3 = H') ?_ ?_
  · walk_at "u"
    refine g_ixL (SqL.of t'.top) (at_of rfl gd) ?_
    walk_at "u"
    refine g_ixL (SqL.of ed) (at_of rfl (row_at ha)) ?_
    walk_at "u"
    exact ⟨rfl, rfl⟩
  rintro σ3 H3 ⟨rfl, rfl⟩
  have ed1 : 0 < d → ((d : Int) - 1) = ((d - 1 : Nat) : Int) := fun h => by omega
  have ea1 : 0 < a → ((a : Int) - 1) = ((a - 1 : Nat) : Int) := fun h => by omega
  have gl : ∀ h : 0 < d, atI l ((d : Int) - 1) = some (l[d - 1]'(by omega)) := fun h => by rw [ed1 h]; exact atI_nat (List.getElem?_eq_getElem (show d - 1 < l.length by omega))
  have gr : ∀ h : 0 < a, atI r ((a : Int) - 1) = some (r[a - 1]'(by omega)) := fun h => by rw [ea1 h]; exact atI_nat (List.getElem?_eq_getElem (show a - 1 < r.length by omega))
  refine g_ifS (g_testTo (b0 := decide (∃ (h1 : 0 < d) (h2 : 0 < a), l[d - 1]'(by omega) = r[a - 1]'(by omega))) (fun QB qb => ?_) ?_)
  · walk_at "u"
    refine g_if (fun h1 => ?_) (fun h1 => ?_)
    · walk_at "u"
      refine g_if (fun h2 => ?_) (fun h2 => ?_)
      · have h1 : 0 < d := by omega
        have h2 : 0 < a := by omega
        walk_at "u"
        refine g_ixS (by omega) (gl h1) ?_
        walk_at "u"
        refine g_ixS (by omega) (gr h2) ?_
        walk_at "u"
        have e : decide ([l[d - 1]'(by omega)] = [r[a - 1]'(by omega)]) = decide (∃ (h1 : 0 < d) (h2 : 0 < a), l[d - 1]'(by omega) = r[a - 1]'(by omega)) := by
          rw [Bool.eq_iff_iff, decide_eq_true_iff, decide_eq_true_iff]
          exact ⟨fun z => ⟨h1, h2, by injection z⟩, fun ⟨_, _, z⟩ => by rw [z]⟩
        rw [e]; exact qb
      · rw [decide_eq_false (fun ⟨_, z, _⟩ => h2 (by omega))] at qb; exact qb
    · rw [decide_eq_false (fun ⟨z, _⟩ => h1 (by omega))] at qb; exact qb
  refine g_if (fun h => ?_) (fun h => ?_)
  · obtain ⟨h1, h2, h3⟩ := h
    walk_at "u"
    rw [ed1 h1, ea1 h2]
    exact ⟨_, by omega, d - 1, a - 1, _, xs, os, rfl, rfl, by omega, by omega, s0, eD, hlen, hc, by rw [mid_same h1 h2 hd ha h3]; exact hled, by rw [← lev_same_at h1 h2 hd ha h3]; exact hn⟩
  refine g_ifS (g_testTo (b0 := decide (0 < d ∧ 0 < a ∧ Lv.lev (l.take (d - 1)) (r.take (a - 1)) + 1 = Lv.lev (l.take d) (r.take a))) (fun QB qb => ?_) ?_)
  · walk_at "u"
    refine g_if (fun h1 => ?_) (fun h1 => ?_)
    · walk_at "u"
      refine g_if (fun h2 => ?_) (fun h2 => ?_)
      · have h1 : 0 < d := by omega
        have h2 : 0 < a := by omega
        obtain ⟨q1, _, g1, e1⟩ := t'.at (i := d - 1) (by omega)
        walk_at "u"
        rw [ed1 h1]
        refine g_ixL (SqL.of t'.top) (at_of rfl g1) ?_
        walk_at "u"
        rw [ea1 h2]
        refine g_ixL (SqL.of e1) (at_of rfl (row_at (by omega))) ?_
        walk_at "u"
        have e : decide (((Lv.lev (l.take (d - 1)) (r.take (a - 1)) : Nat) : Int) + 1 = ((Lv.lev (l.take d) (r.take a) : Nat) : Int)) = decide (0 < d ∧ 0 < a ∧ Lv.lev (l.take (d - 1)) (r.take (a - 1)) + 1 = Lv.lev (l.take d) (r.take a)) := by
          rw [Bool.eq_iff_iff, decide_eq_true_iff, decide_eq_true_iff]; omega
        rw [e]; exact qb
      · rw [decide_eq_false (by omega)] at qb; exact qb
    · rw [decide_eq_false (by omega)] at qb; exact qb
  refine g_if (fun h' => ?_) (fun h' => ?_)
  · obtain ⟨h1, h2, h3⟩ := h'
    have h4 : ¬ l[d - 1]'(by omega) = r[a - 1]'(by omega) := fun z => h ⟨h1, h2, z⟩
    have hl3 : Lc (r[a - 1]'(by omega)) := hw2 _ (List.getElem_mem _)
    walk_at "u"
    refine ⟨Or.inl ⟨rfl, _, SqL.of eD⟩, ?_⟩
    walk_at "v"
    refine g_ixS (by omega) (gr h2) ?_
    walk_at "u"
    refine ⟨by show 3 ≤ sizeLine; decide, fun T0 hT0 => ?_⟩
    walk_at "u"
    refine g_append (by rw [upd_ne (ne_of_none eD hT0)]; exact eD) (by omega) ?_
    walk_at "u"
    rw [ed1 h1, ea1 h2]
    refine step _ (d - 1) (a - 1) T0 _ hT0 (by omega) (by omega) (by omega) ?_ ?_ h3
    · intro v hv
      simp only [List.mem_cons, List.not_mem_nil, or_false] at hv
      rcases hv with rfl | rfl | rfl
      · exact ⟨by show (mkS _).length ≤ 1000; decide +kernel, _, .str _⟩
      · exact ⟨trivial, _, .int _⟩
      · exact ⟨by show (mkS _).length ≤ 1000; rw [mkS_len]; show 1 ≤ 1000; decide, _, .str _⟩
    · refine (stepR_turn (letOf_one hl3) (fun z => absurd z.1 (by decide +kernel)) ⟨rfl, by omega, by rw [mid_len hd ha]; omega, ?_⟩).trans ?_
      · rw [show ((d - 1 : Nat) : Int).toNat = d - 1 from rfl, mid_get h1 hd]
        intro z; injection z with z; exact h4 z
      · rw [show ((d - 1 : Nat) : Int).toNat = d - 1 from rfl, mid_turn h1 h2 hd ha]
  refine g_ifS (g_testTo (b0 := decide (0 < d ∧ Lv.lev (l.take (d - 1)) (r.take a) + 1 = Lv.lev (l.take d) (r.take a))) (fun QB qb => ?_) ?_)
  · walk_at "u"
    refine g_if (fun h1 => ?_) (fun h1 => ?_)
    · have h1 : 0 < d := by omega
      obtain ⟨q1, _, g1, e1⟩ := t'.at (i := d - 1) (by omega)
      walk_at "u"
      rw [ed1 h1]
      refine g_ixL (SqL.of t'.top) (at_of rfl g1) ?_
      walk_at "u"
      refine g_ixL (SqL.of e1) (at_of rfl (row_at ha)) ?_
      walk_at "u"
      have e : decide (((Lv.lev (l.take (d - 1)) (r.take a) : Nat) : Int) + 1 = ((Lv.lev (l.take d) (r.take a) : Nat) : Int)) = decide (0 < d ∧ Lv.lev (l.take (d - 1)) (r.take a) + 1 = Lv.lev (l.take d) (r.take a)) := by
        rw [Bool.eq_iff_iff, decide_eq_true_iff, decide_eq_true_iff]; omega
      rw [e]; exact qb
    · rw [decide_eq_false (by omega)] at qb; exact qb
  refine g_if (fun h3 => ?_) (fun h3 => ?_)
  · obtain ⟨h1, h3⟩ := h3
    walk_at "u"
    refine ⟨Or.inl ⟨rfl, _, SqL.of eD⟩, ?_⟩
    walk_at "v"
    refine ⟨by show 2 ≤ sizeLine; decide, fun T0 hT0 => ?_⟩
    walk_at "u"
    refine g_append (by rw [upd_ne (ne_of_none eD hT0)]; exact eD) (by omega) ?_
    walk_at "u"
    rw [ed1 h1]
    refine step _ (d - 1) a T0 _ hT0 (by omega) (by omega) (by omega) ?_ ?_ h3
    · intro v hv
      simp only [List.mem_cons, List.not_mem_nil, or_false] at hv
      rcases hv with rfl | rfl
      · exact ⟨by show (mkS _).length ≤ 1000; decide +kernel, _, .str _⟩
      · exact ⟨trivial, _, .int _⟩
    · refine (stepR_cut ⟨rfl, by omega, by rw [mid_len hd ha]; omega⟩).trans ?_
      rw [show ((d - 1 : Nat) : Int).toNat = d - 1 from rfl, mid_cut h1 hd]
  have h2 : 0 < a := by
    rcases Nat.eq_zero_or_pos a with z | z
    · exfalso
      subst z
      have h1 : 0 < d := by omega
      apply h3
      refine ⟨h1, ?_⟩
      rw [List.take_zero, Lv.lev_nil_right, Lv.lev_nil_right, List.length_take, List.length_take]; omega
    · exact z
  have hl3 : Lc (r[a - 1]'(by omega)) := hw2 _ (List.getElem_mem _)
  have hv : Lv.lev (l.take d) (r.take (a - 1)) + 1 = Lv.lev (l.take d) (r.take a) := by
    rcases Nat.eq_zero_or_pos d with z | h1
    · subst z
      rw [List.take_zero, Lv.lev_nil_left, Lv.lev_nil_left, List.length_take, List.length_take]; omega
    · exact lev_last h1 h2 hd ha (fun z => h ⟨h1, h2, z⟩) (fun z => h' ⟨h1, h2, z⟩) (fun z => h3 ⟨h1, z⟩)
  walk_at "u"
  refine ⟨Or.inl ⟨rfl, _, SqL.of eD⟩, ?_⟩
  walk_at "v"
  refine g_ixS (by omega) (gr h2) ?_
  walk_at "u"
  refine ⟨by show 3 ≤ sizeLine; decide, fun T0 hT0 => ?_⟩
  walk_at "u"
  refine g_append (by rw [upd_ne (ne_of_none eD hT0)]; exact eD) (by omega) ?_
  walk_at "u"
  rw [ea1 h2]
  refine step _ d (a - 1) T0 _ hT0 (by omega) (by omega) (by omega) ?_ ?_ hv
  · intro v hv
    simp only [List.mem_cons, List.not_mem_nil, or_false] at hv
    rcases hv with rfl | rfl | rfl
    · exact ⟨by show (mkS _).length ≤ 1000; decide +kernel, _, .str _⟩
    · exact ⟨trivial, _, .int _⟩
    · exact ⟨by show (mkS _).length ≤ 1000; rw [mkS_len]; show 1 ≤ 1000; decide, _, .str _⟩
  · refine (stepR_put (letOf_one hl3) ⟨rfl, by omega, by rw [mid_len hd ha]; omega⟩).trans ?_
    rw [show ((d : Nat) : Int).toNat = d from rfl, mid_put h2 hd ha]
theorem d_Node___init__ {CN : Addr} (A : AtI K mg "Node" CN "Node.__init__" s_Node___init__) (bi : Bi mg) (nc : NodeC K CN) : Di P w K mg base CX0 1 "Node" CN ["self"] (spNodeI CN) := by
  have sc := sc_Node___init__
  refine A.ok sc (fun _ _ _ _ _ _ us hl => match us, hl with | [_], _ => rfl) (fun vs H Q E h => ?_) (fun f cdv A outer s H vs Q E hr h => ?_)
  · obtain ⟨_, _, rfl, _, _⟩ := h; rfl
  have hu := hu_of hr
  obtain ⟨x, dx, rfl, e, q⟩ := h
  refine ⟨_, (pss_cons (ps_fld (pv 0) pe_dnewK rfl)
  (pss_one (ps_fld (pv 0) pe_bl rfl))), ?_⟩
  refine g_start (show L2.start _ _ = [some _] from rfl) ?_
  walk_at "u"
  refine g_dnew fun d hd => ?_
  have nx : x ≠ d := ne_of_none e hd
  walk_at "u"
  refine g_setI (by rw [upd_ne nx]; exact e) nc.cl nc.nb (by decide) ?_
  walk_at "u"
  refine g_setI upd_same nc.cl nc.nk (by show 1 < 1000; decide) ?_
  refine q d _ hd ?_ ?_ fun y u hy hne => ?_
  · rw [upd_same]; exact congrArg (fun z => some (HO.ins CN dx z)) putF_kept0
  · rw [upd_ne nx.symm, upd_ne nx.symm, upd_same]
  · rw [upd_ne hne, upd_ne hne, upd_ne (ne_of_none hy hd)]; exact hy
theorem d_Tree___init__ {CN CT : Addr} (A : AtI K mg "Tree" CT "Tree.__init__" s_Tree___init__) (bi : Bi mg) (tc : TreeC K CT) (d_Node___init__ : Di P w K mg base CX0 1 "Node" CN ["self"] (spNodeI CN)) : Di P w K mg base CX0 3 "Tree" CT ["self"] (spTreeI CN CT) := by
  have sc := sc_Tree___init__
  refine A.ok sc (fun _ _ _ _ _ _ us hl => match us, hl with | [_], _ => rfl) (fun vs H Q E h => ?_) (fun f cdv A outer s H vs Q E hr h => ?_)
  · obtain ⟨_, _, rfl, _, _⟩ := h; rfl
  have hu := hu_of hr
  obtain ⟨t, dt, rfl, e, q⟩ := h
  refine ⟨_, (pss_cons (ps_fld (pv 0) (pe_makeD0 d_Node___init__ (hr.mono (by decide)) (by rfl) pass0) rfl)
  (pss_one (ps_fld (pv 0) pe_int rfl))), ?_⟩
  refine g_start (show L2.start _ _ = [some _] from rfl) ?_
  walk_at "u"
  refine g_newNode fun x dx d H1 hx hd h1 h2 s1 => ?_
  have nx : x ≠ t := fun z => by rw [z, e] at hx; cases hx
  have nd : d ≠ t := fun z => by rw [z, e] at hd; cases hd
  walk_at "u"
  refine g_setI (s1 _ _ e) tc.cl tc.nt (by decide) ?_
  walk_at "u"
  refine g_setI upd_same tc.cl tc.nm (by show 1 < 1000; decide) ?_
  refine q _ (fun y => y = t ∨ y = x ∨ y = d) (tree_new (dt := dt) (dx := dx) ?_ ?_ ?_) (fun y hy => ?_) fun y u hy hne => ?_
  · rw [upd_same]; exact congrArg (fun z => some (HO.ins CT dt z)) putF_many0
  · rw [upd_ne nx, upd_ne nx]; exact h1
  · rw [upd_ne nd, upd_ne nd]; exact h2
  · rcases hy with rfl | rfl | rfl
    · exact .inl rfl
    · exact .inr hx
    · exact .inr hd
  · rw [upd_ne hne, upd_ne hne]; exact s1 _ _ hy
theorem d_path (A : At K mg "_path" s_path) (bi : Bi mg) {CN : Addr} (nc : NodeC K CN) : Dd P w K mg base CX0 1 "_path" ["top", "word"] (spPath CN) := by
  have sc := sc_path
  refine A.ok sc (fun _ _ _ _ _ _ us hl => match us, hl with | [_, _], _ => rfl) (fun vs H Q E h => ?_) (fun f cdv A outer s H vs Q E hr h => ?_)
  · obtain ⟨_, _, _, _, rfl, _⟩ := h; rfl
  have hu := hu_of hr
  obtain ⟨L, N, W, l, rfl, hl, tr, q⟩ := h
  refine ⟨_, (pss_cons (ps_set (i := 2) sc.nd rfl (Or.inl rfl) (pe_lst (pa_cons (pv 0) pa_nil)))
  (pss_cons (ps_for PassesOwn.never rfl (pi_str (pv 1)) (pg_name (i := 3) sc.nd rfl (Or.inl rfl)) (pss_cons (ps_set (i := 4) sc.nd rfl (Or.inl rfl) (pe_ix ix_list (pv 2) (pe_un un_neg pe_int) (fun _ _ => rfl)))
  (pss_cons (ps_if (pt_cmp (pc_dnotin hu (pv 3) (pe_fld (pv 4) rfl))) (pss_one (ps_ret (pv 2))) pss_nil)
  (pss_one (ps_expr (pe_bm PySem.F.plainAttrs_list PySem.F.slot_list_append PySem.F.type_list_append mt_append (pv 2) (pa_cons (pe_dget hu (pe_fld (pv 4) rfl) (pv 3) (fun _ _ => rfl)) pa_nil)))))))
  (pss_one (ps_ret (pv 2))))), ?_⟩
  refine g_start (show L2.start _ _ = [some _, some _, none, none, none] from rfl) ?_
  walk_at "v"
  refine ⟨by show 1 ≤ sizeLine; decide, fun D hD => ?_⟩
  walk_at "u"
  refine g_txt rfl (fun i σ' H' => ∃ v1 v2, σ' = [some (.ref (L.ad [])), some (.str (mkS l)), some (.ref D), v1, v2] ∧ Same H H' ∧ H' D = some (.lst (pathV L l i)) ∧ ∀ k, k ≤ i → N (l.take k)) ⟨none, none, rfl, Same.new hD, by rw [upd_same]; rfl, fun k hk => by rw [show k = 0 by omega]; exact tr.root⟩ ?_ ?_
  · rintro i c σ' H' hc ⟨v1, v2, rfl, s0, eD, hN⟩
    have hi : i < l.length := (List.getElem?_eq_some_iff.mp hc).1
    have hp := hN i (Nat.le_refl _)
    walk_at "u"
    refine g_ixL (SqL.of eD) (atI_neg1 (i := i) pathV_len (pathV_get (Nat.le_refl _))) ?_
    walk_at "u"
    refine g_below nc (tr.same s0) hp ?_
    by_cases hn : N (l.take i ++ [c])
    · refine g_inYes (tr.same s0) hp hn ?_
      walk_at "u"
      refine ⟨Or.inl ⟨rfl, _, SqL.of eD⟩, ?_⟩
      walk_at "u"
      refine g_below nc (tr.same s0) hp ?_
      walk_at "u"
      refine g_at (tr.same s0) hp hn ?_
      walk_at "u"
      refine g_append eD (by rw [pathV_len]; omega) ?_
      walk_at "u"
      refine ⟨_, _, rfl, Same.wr s0 hD, by rw [upd_same, pathV_snoc, take_snoc hc], fun k hk => ?_⟩
      rcases Nat.lt_or_eq_of_le hk with h | h
      · exact hN k (by omega)
      · rw [h, take_snoc hc]; exact hn
    · refine g_inNo (tr.same s0) hp hn ?_
      walk_at "u"
      exact q i D H' ⟨by omega, hN, .inr (by rw [take_snoc hc]; exact hn)⟩ s0 hD eD
  · rintro σ' H' ⟨v1, v2, rfl, s0, eD, hN⟩
    walk_at "u"
    exact q l.length D H' ⟨Nat.le_refl _, hN, .inl rfl⟩ s0 hD eD
theorem d_Tree_has {CN CT C T : Addr} (A : AtM K CT "has" "Tree.has" s_Tree_has) (bi : Bi mg) (nc : NodeC K CN) (tc : TreeC K CT) (d_check_word : Dd P w K mg base (L2.CX P w) 2 "check_word" ["thing"] (spCheck C T)) (d_path : Dd P w K mg base CX0 1 "_path" ["top", "word"] (spPath CN)) : Dm P w K mg base (L2.CX P w) 3 CT "has" ["self", "word"] (spTW CN CT C T wHas) := by
  have sc := sc_Tree_has
  refine A.okX tc.cl sc (fun _ _ _ _ _ _ us hl => match us, hl with | [_, _], _ => rfl) (fun vs H Q E h => ?_) (fun f cdv A outer s H vs Q E hr h => ?_)
  · obtain ⟨_, _, _, _, _, rfl, _⟩ := h; rfl
  have hu := hu_of hr
  have tk := takes_of (X := cxOf (L2.CX P w) P w K mg base n_Tree_has "Tree.has" (defScope s_Tree_has) f cdv A outer s H E) rfl rfl rfl rfl
  obtain ⟨t, x, U, W, F, rfl, kx, hx, hT, tv, q, n⟩ := h
  refine ⟨_, (pss_cons (ps_expr (pe_callDS d_check_word (hr.mono (by decide)) rfl (fun σ => passAt tk σ) (by exact (pa_cons (pv 1) pa_nil))))
  (pss_cons (ps_set (i := 2) sc.nd rfl (Or.inl rfl) (pe_callD d_path (hr.mono (by decide)) rfl pass0 (pa_cons (pe_fld (pv 0) rfl) (pa_cons (pv 1) pa_nil))))
  (pss_one (ps_ret (pe_and (pe_cmpR op_gt (pe_callB c_lenL (by rfl) bi.n_len (by decide +kernel) (pa_cons (pv 2) pa_nil)) (pe_callB c_lenS (by rfl) bi.n_len (by decide +kernel) (pa_cons (pv 1) pa_nil)) (nomark _)) (pe_one (pe_fld (pe_ix ix_list (pv 2) (pe_un un_neg pe_int) (fun _ _ => rfl)) rfl))))))), ?_⟩
  refine g_start (show L2.start _ _ = [some _, some _, none] from rfl) ?_
  walk_at "u"
  refine ⟨x, U, rfl, kx, hx, hT, fun ok => ?_, fun no => n no H (Same.refl _)⟩
  obtain ⟨l, rfl, hw, hl⟩ := wordB_inv ok
  have qq := q l rfl hw hl
  obtain ⟨L, dt, et, tr, hf⟩ := id tv.ex
  walk_at "u"
  refine g_top tc et ?_
  walk_at "u"
  refine ⟨L, Nd W, W, l, rfl, by omega, tr, fun j D H1 g s1 hD eD => ?_⟩
  have sL : SqL K H1 D (pathV L l j) := SqL.of eD
  have hj := g.le
  walk_at "u"
  rw [pathV_len]
  refine g_if (fun h => ?_) (fun h => ?_)
  · have hj : j = l.length := by omega
    subst hj
    have hN := g.down l.length (Nat.le_refl _)
    walk_at "u"
    refine g_ixL sL (atI_neg1 (i := l.length) pathV_len (pathV_get (Nat.le_refl _))) ?_
    refine g_kept nc (tr.same s1) hN ?_
    rw [List.take_length]
    exact qq H1 s1
  · have e : ¬ l ∈ W := fun z => by
      rcases g.stop with h1 | h1
      · omega
      · exact h1 (.inr ⟨l, z, List.take_prefix _ _⟩)
    have := qq H1 s1
    rw [decide_eq_false e] at this
    exact this
theorem d_Tree_put {CN CT C CF T : Addr} (A : AtM K CT "put" "Tree.put" s_Tree_put) (bi : Bi mg) (nc : NodeC K CN) (tc : TreeC K CT) (x_Full : Xc K mg "Full" CF) (d_Tree_has : Dm P w K mg base (L2.CX P w) 3 CT "has" ["self", "word"] (spTW CN CT C T wHas)) (d_Node___init__ : Di P w K mg base CX0 1 "Node" CN ["self"] (spNodeI CN)) : Dm P w K mg base (L2.CX P w) 4 CT "put" ["self", "word"] (spTW CN CT C T (wPut CN CT CF)) := by
  have sc := sc_Tree_put
  refine A.okX tc.cl sc (fun _ _ _ _ _ _ us hl => match us, hl with | [_, _], _ => rfl) (fun vs H Q E h => ?_) (fun f cdv A outer s H vs Q E hr h => ?_)
  · obtain ⟨_, _, _, _, _, rfl, _⟩ := h; rfl
  have hu := hu_of hr
  have tk := takes_of (X := cxOf (L2.CX P w) P w K mg base n_Tree_put "Tree.put" (defScope s_Tree_put) f cdv A outer s H E) rfl rfl rfl rfl
  obtain ⟨tM, c_MOST_WORDS⟩ := bi.c_MOST_WORDS
  obtain ⟨t, x, U, W, F, rfl, kx, hx, hT, tv, q, n⟩ := h
  refine ⟨_, (pss_cons (ps_if (pt_val (pe_methDS d_Tree_has (pv 0) (hr.mono (by decide)) (fun σ => passAt tk σ) (by exact (pa_cons (pv 1) pa_nil)))) (pss_one (ps_ret pe_bl)) pss_nil)
  (pss_cons (ps_if (pt_cmpR op_ge (pe_fld (pv 0) rfl) (pe_glob (v := .int 400) (by rfl) c_MOST_WORDS ⟨_, rfl⟩) (nomark _)) (pss_one (ps_raise rfl tk (pmk_own PySem.F.excBase_ValueError x_Full.ex x_Full.g x_Full.kp (raises_own x_Full.sb x_Full.ty) (by rfl)))) pss_nil)
  (pss_cons (ps_set (i := 2) sc.nd rfl (Or.inl rfl) (pe_fld (pv 0) rfl))
  (pss_cons (ps_for (passes_of rfl) rfl (pi_str (pv 1)) (pg_name (i := 3) sc.nd rfl (Or.inl rfl)) (Evl.pss_cut (ps_if (pt_cmp (pc_dnotin hu (pv 3) (pe_fld (pv 2) rfl))) (pss_one (ps_dput hu (pe_fld (pv 2) rfl) (pv 3) (pe_makeD0 d_Node___init__ (hr.mono (by decide)) (by rfl) pass0) rfl)) pss_nil)
  (pss_one (ps_set (i := 2) sc.nd rfl (Or.inl rfl) (pe_dget hu (pe_fld (pv 2) rfl) (pv 3) (fun _ _ => rfl))))))
  (pss_cons (ps_fld (pv 2) pe_bl rfl)
  (pss_cons (ps_fldaug (pv 0) pe_int in_add)
  (pss_one (ps_ret pe_bl)))))))), ?_⟩
  refine g_start (show L2.start _ _ = [some _, some _, none, none] from rfl) ?_
  obtain ⟨L, dt, et, tr, hf⟩ := id tv.ex
  walk_at "u"
  refine ⟨t, dt, _, rfl, et, lk_not rfl, ?_⟩
  walk_at "u"
  refine ⟨t, x, U, W, F, rfl, kx, hx, hT, tv, fun l ex hw hl => ?_, n⟩
  subst ex
  obtain ⟨q1, q2, q3⟩ := q l rfl hw hl
  intro H1 s1
  walk_at "u"
  refine g_if (fun h => ?_) (fun h => ?_)
  · walk_at "u"
    exact q1 h H1 s1
  walk_at "u"
  refine g_many tc (s1 _ _ et) ?_
  walk_at "u"
  refine g_if (fun h4 => ?_) (fun h4 => ?_)
  · walk_at "u"
    exact q3 h (by omega) H1 s1
  have q2 := q2 h (by omega)
  walk_at "u"
  refine g_top tc (s1 _ _ et) ?_
  walk_at "u"
  have fr : ∀ p, Nd W p → (F (L.ad p) ∨ H (L.ad p) = none) ∧ (F (L.bd p) ∨ H (L.bd p) = none) := fun p hp => ⟨.inl (hf p hp).1, .inl (hf p hp).2⟩
  refine g_txt rfl (fun i σ' H' => ∃ (L' : Lay) (v : Option V), σ' = [some (.ref t), some (.str (mkS l)), some (.ref (L'.ad (l.take i))), v] ∧ L'.ad [] = L.ad [] ∧ H' t = some (treeO CT dt L W.length) ∧ Off F H H' ∧ Grow H H' ∧
    Trie CN H' L' (fun p => Nd W p ∨ p <+: l.take i) W ∧ ∀ p, (Nd W p ∨ p <+: l.take i) → (F (L'.ad p) ∨ H (L'.ad p) = none) ∧ (F (L'.bd p) ∨ H (L'.bd p) = none))
    ⟨L, none, rfl, rfl, s1 _ _ et, Same.off s1, Grow.same s1, (tr.same s1).congr (fun p => ⟨.inl, fun z => z.elim id fun y => by rw [List.take_zero, List.prefix_nil] at y; exact .inl y⟩) fun _ _ => Iff.rfl, fun p hp => fr p (hp.elim id fun y => by rw [List.take_zero, List.prefix_nil] at y; exact .inl y)⟩ ?_ ?_
  · rintro i c σ' H2 hc ⟨L2, v, rfl, e0, e2, o2, g2, t2, f2⟩
    have hi : i < l.length := (List.getElem?_eq_some_iff.mp hc).1
    have hcl : Lc c := hw c (List.mem_of_getElem? hc)
    have hp : Nd W (l.take i) ∨ l.take i <+: l.take i := .inr (List.prefix_refl _)
    have pre : ∀ p, p <+: l.take (i + 1) ↔ p = l.take i ++ [c] ∨ p <+: l.take i := fun p => by rw [take_snoc hc]; exact List.prefix_concat_iff
    have hlen : (l.take i).length < 24 := by rw [List.length_take]; omega
    refine g_cut (fun σ' H3 => ∃ L3 : Lay, σ' = [some (.ref t), some (.str (mkS l)), some (.ref (L3.ad (l.take i))), some (.str (mkS [c]))] ∧ L3.ad [] = L.ad [] ∧ H3 t = some (treeO CT dt L W.length) ∧ Off F H H3 ∧ Grow H H3 ∧
      Trie CN H3 L3 (fun p => Nd W p ∨ p <+: l.take (i + 1)) W ∧ ∀ p, (Nd W p ∨ p <+: l.take (i + 1)) → (F (L3.ad p) ∨ H (L3.ad p) = none) ∧ (F (L3.bd p) ∨ H (L3.bd p) = none)) ?_ ?_
    · walk_at "u"
      refine g_below nc t2 hp ?_
      by_cases hn : Nd W (l.take i ++ [c]) ∨ l.take i ++ [c] <+: l.take i
      · have same : ∀ p, (Nd W p ∨ p <+: l.take i) ↔ (Nd W p ∨ p <+: l.take (i + 1)) := fun p => by
          rw [pre p]
          exact ⟨fun z => z.imp id .inr, fun z => z.elim .inl fun y => y.elim (fun w => w ▸ hn) .inr⟩
        refine g_inYes t2 hp hn ?_
        walk_at "u"
        exact ⟨L2, rfl, e0, e2, o2, g2, t2.congr same fun _ _ => Iff.rfl, fun p hp => f2 p ((same p).mpr hp)⟩
      · refine g_inNo t2 hp hn ?_
        walk_at "u"
        refine g_newNode fun y dy d H3 hy hd h1 h2 s3 => ?_
        have t3 := t2.same s3
        walk_at "u"
        refine g_below nc t3 hp ?_
        walk_at "u"
        refine ⟨_, _, rfl, DPut.k (k := Sum.inr (mkS [c])) (t3.dic _ hp) (by rw [kidV_len]; have := t3.few hp; exact Nat.lt_of_le_of_lt this (by decide)), ?_⟩
        have hv : valV (kidV L2 (l.take i) (L2.kd (l.take i))) (Sum.inr (mkS [c]) : Key) = none := by rw [valV_kid, if_neg (fun z => hn ((t2.kids _ hp c).mp z))]
        rw [putK_new _ hv]
        have yb : y ≠ L2.bd (l.take i) := fun z => by have := t2.dic _ hp; rw [← z, hy] at this; cases this
        have db : d ≠ L2.bd (l.take i) := fun z => by have := t2.dic _ hp; rw [← z, hd] at this; cases this
        have tb : t ≠ L2.bd (l.take i) := fun z => by have := t2.dic _ hp; rw [← z, e2] at this; cases this
        have hw3 : l.take i ++ [c] ∉ W := fun z => hn (.inl (.inr ⟨_, z, List.prefix_refl _⟩))
        have t4 := t2.add hp hn hcl hlen hw3 hy hd (by rw [upd_ne yb]; exact h1) (by rw [upd_ne db]; exact h2) upd_same fun z u hz nz => by rw [upd_ne nz]; exact s3 z u hz
        have nroot : ¬ [] = l.take i ++ [c] := by simp
        have fy : H y = none := g2 y hy
        have fd : H d = none := g2 d hd
        refine ⟨L2.add (l.take i) c y dy d, ?_, ?_, ?_, ?_, Grow.upd (g2.trans (Grow.same s3)), ?_, ?_⟩
        · show _ = [some (V.ref t), some (.str (mkS l)), some (.ref (if l.take i = l.take i ++ [c] then y else L2.ad (l.take i))), some (.str (mkS [c]))]
          rw [if_neg snoc_ne]; rfl
        · show (if [] = l.take i ++ [c] then y else L2.ad []) = _
          rw [if_neg nroot]; exact e0
        · rw [upd_ne tb]; exact s3 _ _ e2
        · intro z u hz nz
          have nb : z ≠ L2.bd (l.take i) := fun w => by
            rcases (f2 _ hp).2 with h | h
            · exact nz (w ▸ h)
            · rw [w, h] at hz; cases hz
          rw [upd_ne nb]; exact s3 _ _ (o2 z u hz nz)
        · exact t4.congr (fun p => by rw [pre p]; exact ⟨fun z => z.elim (fun y => y.imp id .inr) fun y => .inr (.inl y), fun z => z.elim (fun y => .inl (.inl y)) fun y => y.elim .inr fun w => .inl (.inr w)⟩) fun _ _ => Iff.rfl
        · intro p hp'
          show (F (if p = l.take i ++ [c] then y else L2.ad p) ∨ H (if p = l.take i ++ [c] then y else L2.ad p) = none) ∧ (F (if p = l.take i ++ [c] then d else L2.bd p) ∨ H (if p = l.take i ++ [c] then d else L2.bd p) = none)
          by_cases hpe : p = l.take i ++ [c]
          · rw [if_pos hpe, if_pos hpe]; exact ⟨.inr fy, .inr fd⟩
          · rw [if_neg hpe, if_neg hpe]
            exact f2 p (hp'.imp id fun z => ((pre p).mp z).resolve_left hpe)
    · rintro σ' H3 ⟨L3, rfl, e0', e3, o3, g3, t3, f3⟩
      have hp3 : Nd W (l.take i) ∨ l.take i <+: l.take (i + 1) := .inr ((pre _).mpr (.inr (List.prefix_refl _)))
      walk_at "u"
      refine g_below nc t3 hp3 ?_
      walk_at "u"
      refine g_at t3 hp3 (.inr ((pre _).mpr (.inl rfl))) ?_
      walk_at "u"
      rw [← take_snoc hc]
      exact ⟨L3, _, rfl, e0', e3, o3, g3, t3, f3⟩
  · rintro σ' H2 ⟨L2, v, rfl, e0, e2, o2, g2, t2, f2⟩
    rw [List.take_length] at t2 f2
    have hp : Nd W l ∨ l <+: l := .inr (List.prefix_refl _)
    walk_at "u"
    rw [List.take_length]
    refine g_setI (t2.obj l hp) nc.cl nc.nk (by show 2 < 1000; decide) ?_
    have tne : t ≠ L2.ad l := t_ne e2 (t2.obj l hp)
    have e3 : upd H2 (L2.ad l) (.ins CN (L2.dx l) (putF "kept" (.bl true) [("below", .ref (L2.bd l)), ("kept", .bl (decide (l ∈ W)))])) = upd H2 (L2.ad l) (nodeO CN L2 l (decide (l ∈ W ++ [l]))) := by
      rw [decide_eq_true (List.mem_append_right _ (List.mem_singleton.mpr rfl))]
      exact congrArg (fun z => upd H2 (L2.ad l) (HO.ins CN (L2.dx l) z)) putF_kept
    rw [e3]
    have t3 := t2.mark (W' := W ++ [l]) hp (fun q hq => by rw [List.mem_append, List.mem_singleton]; exact ⟨.inl, fun z => z.resolve_right hq⟩)
    walk_at "u"
    refine ⟨t, CT, dt, _, _, rfl, by rw [upd_ne tne]; exact e2, tc.cl, tc.nm, lk_many, ?_⟩
    walk_at "u"
    refine ⟨_, _, rfl, rfl, dt, _, by rw [upd_ne tne]; exact e2, by show 2 < 1000; decide, ?_⟩
    walk_at "u"
    have e4 : ∀ G : Hp, upd G t (.ins CT dt (putF "_many" (.int ((W.length : Nat) + 1)) [("_top", .ref (L.ad [])), ("_many", .int (W.length : Nat))])) = upd G t (treeO CT dt L2 (W ++ [l]).length) := fun G => by
      rw [List.length_append]
      have e5 : putF "_many" (.int ((W.length : Nat) + 1)) (fs2 "_top" (.ref (L.ad [])) "_many" (.int (W.length : Nat))) = fs2 "_top" (.ref (L2.ad [])) "_many" (.int ((W.length + 1 : Nat) : Int)) := by rw [putF_many, e0]; rfl
      exact congrArg (fun z => upd G t (HO.ins CT dt z)) e5
    rw [e4]
    have ta : ∀ p, (Nd W p ∨ p <+: l) → L2.ad p ≠ t := fun p hp z => t_ne e2 (t2.obj p hp) z.symm
    have tb : ∀ p, (Nd W p ∨ p <+: l) → L2.bd p ≠ t := fun p hp z => by have := t2.dic p hp; rw [z, e2] at this; cases this
    have nW : ∀ p, (Nd W p ∨ p <+: l) ↔ Nd (W ++ [l]) p := fun p => by
      constructor
      · rintro ((h | ⟨w, hw, h⟩) | h)
        · exact .inl h
        · exact .inr ⟨w, List.mem_append_left _ hw, h⟩
        · exact .inr ⟨l, List.mem_append_right _ (List.mem_singleton.mpr rfl), h⟩
      · rintro (h | ⟨w, hw, h⟩)
        · exact .inl (.inl h)
        · rcases List.mem_append.mp hw with hw | hw
          · exact .inl (.inr ⟨w, hw, h⟩)
          · rw [List.mem_singleton.mp hw] at h; exact .inr h
    have t4 : Trie CN (upd (upd H2 (L2.ad l) (nodeO CN L2 l (decide (l ∈ W ++ [l])))) t (treeO CT dt L2 (W ++ [l]).length)) L2 (Nd (W ++ [l])) (W ++ [l]) :=
      (t3.frame fun x u hx ⟨p, hp, z⟩ => by
        rw [upd_ne (by rcases z with rfl | rfl; exact ta p hp; exact tb p hp)]; exact hx).congr nW fun _ _ => Iff.rfl
    have f4 : ∀ p, Nd (W ++ [l]) p → (F (L2.ad p) ∨ H (L2.ad p) = none) ∧ (F (L2.bd p) ∨ H (L2.bd p) = none) := fun p hp => f2 p ((nW p).mpr hp)
    refine q2 _ (fun y => (F y ∨ H y = none) ∧ ∃ u, upd (upd H2 (L2.ad l) (nodeO CN L2 l (decide (l ∈ W ++ [l])))) t (treeO CT dt L2 (W ++ [l]).length) y = some u ∧ ¬ Plain u) ?_ ⟨⟨L2, dt, upd_same, t4, fun p hp => ⟨⟨(f4 p hp).1, _, t4.obj p hp, id⟩, (f4 p hp).2, _, t4.dic p hp, id⟩⟩, ⟨.inl tv.me, _, upd_same, id⟩, ?_, fun y hy => hy.2⟩ fun y hy => hy.1
    · intro z u hz nz
      have n1 : z ≠ t := fun w => nz (w ▸ tv.me)
      have n2 : z ≠ L2.ad l := fun w => by
        rcases (f2 l hp).1 with h | h
        · exact nz (w ▸ h)
        · rw [w, h] at hz; cases hz
      rw [upd_ne n1, upd_ne n2]; exact o2 z u hz nz
    · rw [List.nodup_append]
      exact ⟨tv.nd, by simp, fun a ha b hb z => h (by rw [← List.mem_singleton.mp hb, ← z]; exact ha)⟩
theorem d_prune (A : At K mg "_prune" s_prune) (bi : Bi mg) {CN : Addr} (nc : NodeC K CN) : Dd P w K mg base CX0 1 "_prune" ["path", "word"] (spPrune CN) := by
  have sc := sc_prune
  refine A.ok sc (fun _ _ _ _ _ _ us hl => match us, hl with | [_, _], _ => rfl) (fun vs H Q E h => ?_) (fun f cdv A outer s H vs Q E hr h => ?_)
  · obtain ⟨_, _, _, _, rfl, _⟩ := h; rfl
  have hu := hu_of hr
  obtain ⟨L, W, l, D, rfl, hl, eD, tr, q⟩ := h
  refine ⟨_, (pss_one (ps_for PassesOwn.never rfl (pi_revR (by rfl) bi.n_reversed (prg_1 (by rfl) bi.n_range (pe_callB c_lenS (by rfl) bi.n_len (by decide +kernel) (pa_cons (pv 1) pa_nil)))) (pg_name (i := 2) sc.nd rfl (Or.inl rfl)) (pss_cons (ps_set (i := 3) sc.nd rfl (Or.inl rfl) (pe_ix ix_list (pv 0) (pe_op op_add (pv 2) pe_int) (fun _ _ => rfl)))
  (pss_cons (ps_if (PW.pt (pw_or (pt_val (pe_fld (pv 3) rfl)) (pw_or1 (pt_tru (pe_fld (pv 3) rfl) (by intro _; rfl))))) (pss_one ps_retN) pss_nil)
  (pss_cons (ps_set (i := 4) sc.nd rfl (Or.inl rfl) (pe_ix ix_list (pv 0) (pv 2) (fun _ _ => rfl)))
  (pss_one (ps_ddel (pe_fld (pv 4) rfl) (pe_ix ix_str (pv 1) (pv 2) (fun _ _ => rfl))))))))), ?_⟩
  refine g_start (show L2.start _ _ = [some _, some _, none, none, none] from rfl) ?_
  walk_at "u"
  refine g_revR (g_rg1 ?_)
  walk_at "u"
  rw [show ((l.length : Int) - 0).toNat = l.length by omega]
  refine ⟨by omega, by omega, by omega, by omega, for_it (walk_rangeC (lo := 0 + ((l.length : Nat) : Int) - 1) (c := -1) (n := l.length)) (fun i σ' H' => ∃ (L' : Lay) (v1 v2 v3 : Option V), σ' = [some (.ref D), some (.str (mkS l)), v1, v2, v3] ∧ (∀ p, L'.ad p = L.ad p) ∧ (∀ p, L'.bd p = L.bd p) ∧
    Trie CN H' L' (fun p => Nd W p ∨ p <+: l.take (l.length - i)) W ∧ (∀ x u, H x = some u → (∀ i, i < l.length → x ≠ L.bd (l.take i)) → H' x = some u) ∧ ∀ i, i < l.length → ∃ kvs, H' (L.bd (l.take i)) = some (.dK kvs))
    ⟨L, none, none, none, rfl, fun _ => rfl, fun _ => rfl, by rw [Nat.sub_zero, List.take_length]; exact tr, fun x u e _ => e, fun i hi => ⟨_, tr.dic _ (.inr (List.take_prefix _ _))⟩⟩ (fun _ _ _ _ _ => trivial) ?_ ?_⟩
  · rintro i x σ' H1 H' hi ⟨L', v1, v2, v3, rfl, ea, eb, t', st, dk⟩ ⟨rfl, hx⟩
    have hx : x = .int (0 + ((l.length : Nat) : Int) - 1 + (i : Nat) * -1) := hx
    subst hx
    refine g_tgtF ?_
    have hn : l.length - i - 1 < l.length := by omega
    have hc : l[l.length - i - 1]? = some l[l.length - i - 1] := List.getElem?_eq_getElem _
    generalize l[l.length - i - 1] = c at hc
    have ei : (0 + ((l.length : Nat) : Int) - 1 + (i : Nat) * -1) = ((l.length - i - 1 : Nat) : Int) := by omega
    rw [ei]
    generalize hm : l.length - i - 1 = m at hn hc ei
    have e1 : l.length - i = m + 1 := by omega
    have e2 : l.length - (i + 1) = m := by omega
    rw [e1] at t'
    have ts := take_snoc hc
    have hp1 : Nd W (l.take (m + 1)) ∨ l.take (m + 1) <+: l.take (m + 1) := .inr (List.prefix_refl _)
    have hp0 : Nd W (l.take m) ∨ l.take m <+: l.take (m + 1) := .inr (by rw [ts]; exact List.prefix_append _ _)
    have pre : ∀ p, p <+: l.take (m + 1) ↔ p = l.take m ++ [c] ∨ p <+: l.take m := fun p => by rw [ts]; exact List.prefix_concat_iff
    have eD' : H' D = some (.lst (pathV L l l.length)) := st _ _ eD fun i hi z => by obtain ⟨kvs, e⟩ := dk i hi; have := tr.dic (l.take i) (.inr (List.take_prefix _ _)); rw [← z, eD] at this; cases this
    walk_at "u"
    refine g_ixL (SqL.of eD') (at_ofN (by omega) (by rw [show ((m : Int) + 1).toNat = m + 1 by omega]; exact pathV_get (by omega))) ?_
    rw [← ea]
    have fin : Nd W (l.take (m + 1)) → Q .non H' := fun hN => by
      have nW : ∀ p, (Nd W p ∨ p <+: l.take (m + 1)) ↔ Nd W p := fun p => ⟨fun z => z.elim id fun y => by
        rcases hN with hN | ⟨w, hw, hN⟩
        · rw [hN, List.prefix_nil] at y; exact .inl y
        · exact .inr ⟨w, hw, y.trans hN⟩, .inl⟩
      exact q H' L' ea eb (t'.congr nW fun _ _ => Iff.rfl) st dk
    walk_at "u"
    refine g_kept nc t' hp1 ?_
    walk_at "u"
    refine g_if (fun hk => ?_) (fun hk => ?_)
    · walk_at "u"
      exact fin (.inr ⟨_, hk, List.prefix_refl _⟩)
    walk_at "u"
    refine g_below nc t' hp1 ?_
    refine ⟨!(kidV L' (l.take (m + 1)) (L'.kd (l.take (m + 1)))).isEmpty, .inr (.inr ⟨_, t'.dic _ hp1, rfl⟩), ?_⟩
    cases hkd : L'.kd (l.take (m + 1)) with
    | cons d r =>
      refine g_ifT ?_
      walk_at "u"
      have h1 := (t'.kids _ hp1 d).mp (by rw [hkd]; exact List.mem_cons_self ..)
      exact fin (Nd.up (h1.resolve_right fun z => by
        have := z.length_le
        rw [List.length_append, List.length_singleton] at this; omega))
    | nil =>
      refine g_ifF ?_
      walk_at "u"
      refine g_ixL (SqL.of eD') (at_of rfl (pathV_get (by omega))) ?_
      rw [← ea]
      walk_at "u"
      refine g_below nc t' hp0 ?_
      walk_at "u"
      refine g_ixS (by omega) (atI_nat hc) ?_
      have hpc : Nd W (l.take m ++ [c]) ∨ l.take m ++ [c] <+: l.take (m + 1) := by rw [← ts]; exact hp1
      refine ⟨_, _, Sum.inr (mkS [c]), rfl, t'.dic _ hp0, rfl, by rw [valV_kid, if_pos ((t'.kids _ hp0 c).mpr hpc)]; rfl, ?_⟩
      have t2 := t'.del (c := c) hp0 (by rw [← ts]; exact hkd) hpc
      have notN : ¬ Nd W (l.take (m + 1)) := by
        rintro (h | ⟨w, hw, r, h⟩)
        · have := congrArg List.length h; rw [ts] at this; simp at this
        · cases r with
          | nil => rw [List.append_nil] at h; exact hk (h ▸ hw)
          | cons d r =>
            have h2 : Nd W (l.take (m + 1) ++ [d]) := .inr ⟨w, hw, r, by rw [← h]; simp⟩
            have := (t'.kids _ hp1 d).mpr (.inl h2)
            rw [hkd] at this; cases this
      have nW : ∀ p, ((Nd W p ∨ p <+: l.take (m + 1)) ∧ p ≠ l.take m ++ [c]) ↔ (Nd W p ∨ p <+: l.take m) := fun p => by
        rw [pre p]
        constructor
        · rintro ⟨h | h | h, n⟩
          · exact .inl h
          · exact absurd h n
          · exact .inr h
        · rintro (h | h)
          · exact ⟨.inl h, fun z => notN (by rw [ts, ← z]; exact h)⟩
          · exact ⟨.inr (.inr h), fun z => by have := h.length_le; rw [z, List.length_append, List.length_singleton] at this; omega⟩
      refine ⟨L'.del (l.take m) c, _, _, _, rfl, ea, eb, ?_, ?_, ?_⟩
      · exact t2.congr nW fun _ _ => Iff.rfl
      · intro x u hx hn'
        rw [upd_ne (fun z => hn' m hn (by rw [z, eb]))]
        exact st x u hx hn'
      · intro j hj
        by_cases e : L.bd (l.take j) = L'.bd (l.take m)
        · exact ⟨_, by rw [e, upd_same]⟩
        · obtain ⟨kvs, ek⟩ := dk j hj
          exact ⟨kvs, by rw [upd_ne e]; exact ek⟩
  · rintro σ' H' ⟨L', v1, v2, v3, rfl, ea, eb, t', st, dk⟩
    rw [Nat.sub_self, List.take_zero] at t'
    exact q H' L' ea eb (t'.congr (fun p => ⟨fun z => z.elim id fun y => by rw [List.prefix_nil] at y; exact .inl y, .inl⟩) fun _ _ => Iff.rfl) st dk
theorem d_Tree_take {CN CT C T : Addr} (A : AtM K CT "take" "Tree.take" s_Tree_take) (bi : Bi mg) (nc : NodeC K CN) (tc : TreeC K CT) (d_Tree_has : Dm P w K mg base (L2.CX P w) 3 CT "has" ["self", "word"] (spTW CN CT C T wHas)) (d_path : Dd P w K mg base CX0 1 "_path" ["top", "word"] (spPath CN)) (d_prune : Dd P w K mg base CX0 1 "_prune" ["path", "word"] (spPrune CN)) : Dm P w K mg base (L2.CX P w) 4 CT "take" ["self", "word"] (spTW CN CT C T (wTake CN CT)) := by
  have sc := sc_Tree_take
  refine A.okX tc.cl sc (fun _ _ _ _ _ _ us hl => match us, hl with | [_, _], _ => rfl) (fun vs H Q E h => ?_) (fun f cdv A outer s H vs Q E hr h => ?_)
  · obtain ⟨_, _, _, _, _, rfl, _⟩ := h; rfl
  have hu := hu_of hr
  have tk := takes_of (X := cxOf (L2.CX P w) P w K mg base n_Tree_take "Tree.take" (defScope s_Tree_take) f cdv A outer s H E) rfl rfl rfl rfl
  obtain ⟨t, x, U, W, F, rfl, kx, hx, hT, tv, q, n⟩ := h
  refine ⟨_, (pss_cons (ps_if (pt_not (pt_val (pe_methDS d_Tree_has (pv 0) (hr.mono (by decide)) (fun σ => passAt tk σ) (by exact (pa_cons (pv 1) pa_nil))))) (pss_one (ps_ret pe_bl)) pss_nil)
  (pss_cons (ps_set (i := 2) sc.nd rfl (Or.inl rfl) (pe_callD d_path (hr.mono (by decide)) rfl pass0 (pa_cons (pe_fld (pv 0) rfl) (pa_cons (pv 1) pa_nil))))
  (pss_cons (ps_set (i := 3) sc.nd rfl (Or.inl rfl) (pe_ix ix_list (pv 2) (pe_un un_neg pe_int) (fun _ _ => rfl)))
  (pss_cons (ps_fld (pv 3) pe_bl rfl)
  (pss_cons (ps_fldaug (pv 0) pe_int in_sub)
  (pss_cons (ps_expr (pe_callD d_prune (hr.mono (by decide)) rfl pass0 (pa_cons (pv 2) (pa_cons (pv 1) pa_nil))))
  (pss_one (ps_ret pe_bl)))))))), ?_⟩
  refine g_start (show L2.start _ _ = [some _, some _, none, none] from rfl) ?_
  obtain ⟨L, dt, et, tr, hf⟩ := id tv.ex
  walk_at "u"
  refine ⟨t, dt, _, rfl, et, lk_not rfl, ?_⟩
  walk_at "u"
  refine ⟨t, x, U, W, F, rfl, kx, hx, hT, tv, fun l ex hw hl => ?_, n⟩
  subst ex
  obtain ⟨q1, q2⟩ := q l rfl hw hl
  intro H1 s1
  walk_at "u"
  refine g_ifN (fun h => ?_) (fun h => ?_)
  · walk_at "u"
    exact q1 h H1 s1
  have q2 := q2 h
  walk_at "u"
  refine g_top tc (s1 _ _ et) ?_
  walk_at "u"
  have tr1 := tr.same s1
  refine ⟨L, Nd W, W, l, rfl, by omega, tr1, fun j D H2 g s2 hD eD => ?_⟩
  have pl : ∀ p, p <+: l → Nd W p := fun p hp => .inr ⟨l, h, hp⟩
  obtain rfl := g.full pl
  have tr2 := tr1.same s2
  have e2 := s2 _ _ (s1 _ _ et)
  have hp : Nd W l := pl l (List.prefix_refl _)
  walk_at "u"
  refine g_ixL (SqL.of eD) (atI_neg1 (i := l.length) pathV_len (pathV_get (Nat.le_refl _))) ?_
  rw [List.take_length]
  walk_at "u"
  refine g_setI (tr2.obj l hp) nc.cl nc.nk (by show 2 < 1000; decide) ?_
  have nW : ∀ p, Nd W p ↔ (Nd (less W l) p ∨ p <+: l) := fun p => by
    constructor
    · rintro (h' | ⟨w, hw', h'⟩)
      · exact .inl (.inl h')
      · by_cases e : w = l
        · rw [e] at h'; exact .inr h'
        · exact .inl (.inr ⟨w, less_mem.mpr ⟨hw', e⟩, h'⟩)
    · rintro ((h' | ⟨w, hw', h'⟩) | h')
      · exact .inl h'
      · exact .inr ⟨w, (less_mem.mp hw').1, h'⟩
      · exact pl p h'
  have e3 : upd H2 (L.ad l) (.ins CN (L.dx l) (putF "kept" (.bl false) [("below", .ref (L.bd l)), ("kept", .bl (decide (l ∈ W)))])) = upd H2 (L.ad l) (nodeO CN L l (decide (l ∈ less W l))) := by
    rw [decide_eq_false (fun z => (less_mem.mp z).2 rfl)]
    exact congrArg (fun z => upd H2 (L.ad l) (HO.ins CN (L.dx l) z)) putF_kept
  rw [e3]
  have t3 := (tr2.mark (W' := less W l) hp (fun q hq => by rw [less_mem]; exact ⟨fun z => ⟨z, hq⟩, fun z => z.1⟩)).congr nW fun _ _ => Iff.rfl
  have tne : t ≠ L.ad l := t_ne e2 (tr2.obj l hp)
  walk_at "u"
  refine ⟨t, CT, dt, _, _, rfl, by rw [upd_ne tne]; exact e2, tc.cl, tc.nm, lk_many, ?_⟩
  walk_at "u"
  refine ⟨_, _, rfl, rfl, dt, _, by rw [upd_ne tne]; exact e2, by show 2 < 1000; decide, ?_⟩
  have e4 : ∀ G : Hp, upd G t (.ins CT dt (putF "_many" (.int ((W.length : Nat) - 1)) [("_top", .ref (L.ad [])), ("_many", .int (W.length : Nat))])) = upd G t (treeO CT dt L (less W l).length) := fun G => by
    have e5 : putF "_many" (.int ((W.length : Nat) - 1)) (fs2 "_top" (.ref (L.ad [])) "_many" (.int (W.length : Nat))) = fs2 "_top" (.ref (L.ad [])) "_many" (.int ((less W l).length : Nat)) := by rw [putF_many, less_len tv.nd h]
    exact congrArg (fun z => upd G t (HO.ins CT dt z)) e5
  rw [e4]
  have ta : ∀ p, Nd W p → t ≠ L.ad p := fun p hp => t_ne e2 (tr2.obj p hp)
  have tb : ∀ p, Nd W p → t ≠ L.bd p := fun p hp => t_nb e2 (tr2.dic p hp)
  have t4 : Trie CN (upd (upd H2 (L.ad l) (nodeO CN L l (decide (l ∈ less W l)))) t (treeO CT dt L (less W l).length)) L (fun p => Nd (less W l) p ∨ p <+: l) (less W l) :=
    t3.frame fun x u hx ⟨p, hp, z⟩ => by
      rw [upd_ne (by rcases z with rfl | rfl; exact (ta p ((nW p).mpr hp)).symm; exact (tb p ((nW p).mpr hp)).symm)]; exact hx
  have D1 : D ≠ L.ad l := fun z => by have := tr2.obj l hp; rw [← z, eD] at this; cases this
  have D2 : D ≠ t := fun z => by rw [z, e2] at eD; cases eD
  walk_at "u"
  refine ⟨L, less W l, l, D, rfl, hl, by rw [upd_ne D2, upd_ne D1]; exact eD, t4, fun H5 L5 ea eb t5 st dk => ?_⟩
  walk_at "u"
  have e5 : H5 t = some (treeO CT dt L5 (less W l).length) := by
    have := st t _ upd_same fun i _ => tb _ (pl _ (List.take_prefix _ _))
    rw [this]
    show some (HO.ins CT dt (fs2 "_top" (.ref (L.ad [])) "_many" (.int ((less W l).length : Nat)))) = some (HO.ins CT dt (fs2 "_top" (.ref (L5.ad [])) "_many" (.int ((less W l).length : Nat))))
    rw [ea]
  refine q2 H5 ?_ ⟨⟨L5, dt, e5, t5, fun p hp => by rw [ea, eb]; exact hf p ((nW p).mpr (.inl hp))⟩, tv.me, List.Pairwise.filter _ tv.nd, fun y hy => ?_⟩
  · intro z u hz nz
    have n1 : z ≠ t := fun w => nz (w ▸ tv.me)
    have n2 : z ≠ L.ad l := fun w => nz (w ▸ (hf l hp).1)
    refine st z u (by rw [upd_ne n1, upd_ne n2]; exact s2 _ _ (s1 _ _ hz)) fun i _ w => nz (w ▸ (hf _ (pl _ (List.take_prefix _ _))).2)
  · by_cases hb : ∃ i, i < l.length ∧ y = L.bd (l.take i)
    · obtain ⟨i, hi, rfl⟩ := hb
      obtain ⟨kvs, e⟩ := dk i hi
      exact ⟨_, e, id⟩
    · obtain ⟨u, e, np⟩ := tv.kind y hy
      by_cases h1 : y = t
      · exact ⟨_, h1 ▸ e5, id⟩
      · by_cases h2 : y = L.ad l
        · have e6 := st y _ (by rw [upd_ne h1, h2, upd_same]) fun i hi z => hb ⟨i, hi, z⟩
          exact ⟨_, e6, id⟩
        · exact ⟨u, st y u (by rw [upd_ne h1, upd_ne h2]; exact s2 _ _ (s1 _ _ e)) fun i hi z => hb ⟨i, hi, z⟩, np⟩
theorem d_words_step (A : At K mg "_words_from" s_words_from) (bi : Bi mg) {CN : Addr} (nc : NodeC K CN) {k j : Nat} (d_rec : Dd P w K mg base CX0 k "_words_from" ["node", "text"] (fun vs H Q E => ∃ i, j = i + 1 ∧ spFrom CN i vs H Q E)) : Dd P w K mg base CX0 (k + 1) "_words_from" ["node", "text"] (spFrom CN j) := by
  have sc := sc_words_from
  refine A.ok sc (fun _ _ _ _ _ _ us hl => match us, hl with | [_, _], _ => rfl) (fun vs H Q E h => ?_) (fun f cdv A outer s H vs Q E hr h => ?_)
  · obtain ⟨_, _, _, _, rfl, _⟩ := h; rfl
  have hu := hu_of hr
  obtain ⟨L, N, W, p, rfl, tr, hp, hW, hj24, h4, q⟩ := h
  refine ⟨_, (pss_cons (ps_set (i := 2) sc.nd rfl (Or.inl rfl) (pe_lst pa_nil))
  (Evl.pss_cut (ps_if (pt_val (pe_fld (pv 0) rfl)) (pss_one (ps_expr (pe_bm PySem.F.plainAttrs_list PySem.F.slot_list_append PySem.F.type_list_append mt_append (pv 2) (pa_cons (pv 1) pa_nil)))) pss_nil)
  (pss_cons (ps_for PassesOwn.never rfl (pi_list (pe_callB (c_sortedD rfl) (by rfl) bi.n_sorted (by decide +kernel) (pa_cons (pe_fld (pv 0) rfl) pa_nil))) (pg_name (i := 3) sc.nd rfl (Or.inl rfl)) (pss_one (ps_expr (pe_bm PySem.F.plainAttrs_list PySem.F.slot_list_extend PySem.F.type_list_extend mt_extend (pv 2) (pa_cons (pe_callD d_rec hr rfl pass0 (pa_cons (pe_dget hu (pe_fld (pv 0) rfl) (pv 3) (fun _ _ => rfl)) (pa_cons (pe_op o_addS (pv 1) (pv 3)) pa_nil))) pa_nil)))))
  (pss_one (ps_ret (pv 2)))))), ?_⟩
  refine g_start (show L2.start _ _ = [some _, some _, none, none] from rfl) ?_
  walk_at "v"
  refine ⟨by show 0 ≤ sizeLine; decide, fun D hD => ?_⟩
  walk_at "u"
  refine g_cut (fun σ' H' => σ' = [some (.ref (L.ad p)), some (.str (mkS p)), some (.ref D), none] ∧ Same H H' ∧ H' D = some (.lst (wordsV (if p ∈ W then [p] else [])))) ?_ ?_
  · have s0 : Same H (upd H D (.lst [])) := Same.new hD
    walk_at "u"
    refine g_kept nc (tr.same s0) hp ?_
    walk_at "u"
    refine g_if (fun h => ?_) (fun h => ?_)
    · walk_at "u"
      refine ⟨Or.inl ⟨rfl, _, SqL.of upd_same⟩, ?_⟩
      walk_at "u"
      refine g_append upd_same (by decide) ?_
      walk_at "u"
      exact ⟨rfl, Same.wr s0 hD, by rw [upd_same, if_pos h]; rfl⟩
    · walk_at "u"
      exact ⟨rfl, s0, by rw [upd_same, if_neg h]; rfl⟩
  rintro σ' H1 ⟨rfl, s1, e1⟩
  walk_at "u"
  refine g_below nc (tr.same s1) hp ?_
  refine g_sortedD (tr.same s1) hp fun cs D2 hcs hmem hD2 => ?_
  have nD : D ≠ D2 := ne_of_none e1 hD2
  have hlen26 : cs.length ≤ 26 := by
    have h1 : cs.Nodup := List.Pairwise.imp (fun {a b} (h : a < b) (z : a = b) => by omega) hcs
    exact h1.length_le_of_subset fun c hc => (alpha_mem c).mpr (tr.wd _ ((hmem c).mp hc) c (by simp))
  refine g_inL (SqL.of upd_same) (fun i σ' H' => ∃ (ys : List (List Nat)) (v : Option V), σ' = [some (.ref (L.ad p)), some (.str (mkS p)), some (.ref D), v] ∧ Same H H' ∧ H' D2 = some (.lst (cs.map fun c => V.str (mkS [c]))) ∧ H' D = some (.lst (wordsV ys)) ∧ Upto W p (cs.take i) ys)
    ⟨_, none, rfl, s1.trans (Same.new hD2), upd_same, by rw [upd_ne nD]; exact e1, Upto.zero⟩ (fun i σ' H' _ ⟨_, _, _, _, e, _⟩ => SqL.of e) ?_ ?_
  · rintro i x σ' H2 hx ⟨ys, v, rfl, s2, e2, e3, u⟩
    rw [List.getElem?_map] at hx
    obtain ⟨c, hc, rfl⟩ : ∃ c, cs[i]? = some c ∧ x = V.str (mkS [c]) := by
      cases e : cs[i]? with
      | none => rw [e] at hx; cases hx
      | some c => rw [e] at hx; exact ⟨c, rfl, (Option.some.inj hx).symm⟩
    have hN : N (p ++ [c]) := (hmem c).mp (List.mem_of_getElem? hc)
    have hl1 := tr.len _ hN
    rw [List.length_append] at hl1
    have hl1 : p.length + 1 ≤ 24 := hl1
    walk_at "u"
    refine ⟨Or.inl ⟨rfl, _, SqL.of e3⟩, ?_⟩
    walk_at "u"
    refine g_below nc (tr.same s2) hp ?_
    walk_at "u"
    have hp24 := tr.len p hp
    refine g_at (tr.same s2) hp hN ?_
    walk_at "u"
    have hj : 0 < j := by omega
    refine ⟨j - 1, by omega, L, N, W, p ++ [c], rfl, tr.same s2, hN, hW, by rw [List.length_append]; show 24 ≤ p.length + 1 + (j - 1); omega, h4, fun zs D3 H3 b s3 hD3 e4 => ?_⟩
    have f1 := u.few
    have f2 := b.few
    refine ⟨D, D3, _, _, rfl, rfl, s3 _ _ e3, e4, ?_, ?_⟩
    · rw [wordsV, wordsV, List.length_map, List.length_map]; exact small_line (by omega)
    walk_at "u"
    have n3 : D ≠ D2 := nD
    refine ⟨ys ++ zs, _, rfl, Same.wr (s2.trans s3) hD, by rw [upd_ne nD.symm]; exact s3 _ _ e2, by rw [upd_same, wordsV, wordsV, wordsV, List.map_append], ?_⟩
    rw [take_snoc hc]
    refine u.next b fun d hd => ?_
    obtain ⟨k, hk, ek⟩ := List.getElem_of_mem hd
    rw [List.length_take] at hk
    have hi : i < cs.length := (List.getElem?_eq_some_iff.mp hc).1
    have hci : cs[i] = c := (List.getElem?_eq_some_iff.mp hc).2
    rw [List.getElem_take] at ek
    rw [← ek, ← hci]
    exact List.pairwise_iff_getElem.mp hcs k i (by omega) hi (by omega)
  · rintro σ' H2 ⟨ys, v, rfl, s2, e2, e3, u⟩
    rw [List.length_map, List.take_length] at u
    walk_at "u"
    exact q ys D H2 (u.done tr hW hmem) s2 hD e3
theorem d_words_all (A : At K mg "_words_from" s_words_from) (bi : Bi mg) {CN : Addr} (nc : NodeC K CN) : ∀ j, Dd P w K mg base CX0 (j + 1) "_words_from" ["node", "text"] (spFrom CN j)
  | 0 => d_words_step (k := 0) A bi nc (Dd.never A (fun _ _ _ _ _ _ us hl => match us, hl with | [_, _], _ => rfl) fun vs H Q E ⟨i, e, _⟩ => by omega)
  | j + 1 => d_words_step A bi nc ((d_words_all A bi nc j).weak fun vs H Q E ⟨i, e, h⟩ => by
    obtain rfl : j = i := by omega
    exact h)
theorem d_words_from (A : At K mg "_words_from" s_words_from) (bi : Bi mg) {CN : Addr} (nc : NodeC K CN) : Dd P w K mg base CX0 25 "_words_from" ["node", "text"] (spFrom CN 24) := d_words_all A bi nc 24
theorem d_Tree_words {CN CT : Addr} (A : AtM K CT "words" "Tree.words" s_Tree_words) (bi : Bi mg) (nc : NodeC K CN) (tc : TreeC K CT) (d_words_from : Dd P w K mg base CX0 25 "_words_from" ["node", "text"] (spFrom CN 24)) : Dm P w K mg base CX0 26 CT "words" ["self"] (spWords CN CT) := by
  have sc := sc_Tree_words
  refine A.ok tc.cl sc (fun _ _ _ _ _ _ us hl => match us, hl with | [_], _ => rfl) (fun vs H Q E h => ?_) (fun f cdv A outer s H vs Q E hr h => ?_)
  · obtain ⟨_, _, _, rfl, _⟩ := h; rfl
  have hu := hu_of hr
  obtain ⟨t, W, F, rfl, tv, h4, q⟩ := h
  refine ⟨_, (pss_one (ps_ret (pe_callD d_words_from (hr.mono (by decide)) rfl pass0 (pa_cons (pe_fld (pv 0) rfl) (pa_cons pe_str pa_nil))))), ?_⟩
  refine g_start (show L2.start _ _ = [some _] from rfl) ?_
  obtain ⟨L, dt, et, tr, hf⟩ := id tv.ex
  walk_at "u"
  refine g_top tc et ?_
  walk_at "u"
  refine ⟨L, Nd W, W, [], rfl, tr, tr.root, fun w hw => .inr ⟨w, hw, List.prefix_refl _⟩, by decide, h4, fun ys D H' b s hD e => q ys D H' b s hD e⟩
theorem d_Tree_top {CN CT : Addr} (A : AtM K CT "top" "Tree.top" s_Tree_top) (bi : Bi mg) (nc : NodeC K CN) (tc : TreeC K CT) : Dm P w K mg base CX0 1 CT "top" ["self"] (spTop CN CT) := by
  have sc := sc_Tree_top
  refine A.ok tc.cl sc (fun _ _ _ _ _ _ us hl => match us, hl with | [_], _ => rfl) (fun vs H Q E h => ?_) (fun f cdv A outer s H vs Q E hr h => ?_)
  · obtain ⟨_, _, _, rfl, _⟩ := h; rfl
  have hu := hu_of hr
  obtain ⟨t, W, F, rfl, tv, q⟩ := h
  refine ⟨_, (pss_one (ps_ret (pe_fld (pv 0) rfl))), ?_⟩
  refine g_start (show L2.start _ _ = [some _] from rfl) ?_
  obtain ⟨L, dt, et, tr, hf⟩ := id tv.ex
  walk_at "u"
  refine g_top tc et ?_
  exact q L tr
theorem d_check_most (A : At K mg "_check_most" s_check_most) (bi : Bi mg) {CM : Addr} (x_BadMost : Xc K mg "BadMost" CM) : Dd P w K mg base (L2.CX P w) 1 "_check_most" ["thing"] (spMost CM) := by
  have sc := sc_check_most
  refine A.okX sc (fun _ _ _ _ _ _ us hl => match us, hl with | [_], _ => rfl) (fun vs H Q E h => ?_) (fun f cdv A outer s H vs Q E hr h => ?_)
  · obtain ⟨_, _, rfl, _⟩ := h; rfl
  have hu := hu_of hr
  have tk := takes_of (X := cxOf (L2.CX P w) P w K mg base n_check_most "_check_most" (defScope s_check_most) f cdv A outer s H E) rfl rfl rfl rfl
  obtain ⟨tM, c_MOST_LETTERS⟩ := bi.c_MOST_LETTERS
  obtain ⟨x, U, rfl, k, q1, q2⟩ := h
  refine ⟨_, (pss_cons (ps_if (PW.pt (pw_or (pt_not (pt_val (pe_callB call_isK (by rfl) bi.n_isinstance (by decide +kernel) (pa_cons (pv 0) (pa_cons (pe_bltn (v := .ty "int") (by rfl) bi.n_int (by decide +kernel) rfl) pa_nil))))) (pw_or1 (pt_val (pe_callB call_isK (by rfl) bi.n_isinstance (by decide +kernel) (pa_cons (pv 0) (pa_cons (pe_bltn (v := .ty "bool") (by rfl) bi.n_bool (by decide +kernel) rfl) pa_nil))))))) (pss_one (ps_raise rfl tk (pmk_own PySem.F.excBase_ValueError x_BadMost.ex x_BadMost.g x_BadMost.kp (raises_own x_BadMost.sb x_BadMost.ty) (by rfl)))) pss_nil)
  (pss_one (ps_if (PW.pt (pw_or (pt_cmpR op_lt (pv 0) pe_int (nomark _)) (pw_or1 (pt_cmpR op_gt (pv 0) (pe_glob (v := .int 24) (by rfl) c_MOST_LETTERS ⟨_, rfl⟩) (nomark _))))) (pss_one (ps_raise rfl tk (pmk_own PySem.F.excBase_ValueError x_BadMost.ex x_BadMost.g x_BadMost.kp (raises_own x_BadMost.sb x_BadMost.ty) (by rfl)))) pss_nil))), ?_⟩
  refine g_start (show L2.start _ _ = [some _] from rfl) ?_
  by_cases hT : U = "int"
  · cases k with
    | int i =>
      walk_at "v"
      refine g_if (fun h1 => ?_) (fun h1 => ?_)
      · walk_at "v"
        exact q2 (by have : ¬ 0 ≤ i := by omega
                     simp [okP, this])
      · walk_at "v"
        refine g_if (fun h2 => ?_) (fun h2 => ?_)
        · walk_at "v"
          exact q2 (by have : ¬ i < 25 := by omega
                       simp [okP, this])
        · walk_at "v"
          exact q1 (by have h3 : 0 ≤ i := by omega
                       have h4 : i < 25 := by omega
                       simp [okP, h3, h4])
    | _ => exact absurd hT (by decide)
  · have e : okP 25 x = false := by
      cases k <;> first | rfl | exact absurd rfl hT
    by_cases hb : U = "bool"
    · cases k with
      | bl b =>
        walk_at "v"
        exact q2 e
      | _ => exact absurd hb (by decide)
    · have e2 : isK U "int" = false := by simp [isK, hT, hb]
      walk_at "v"
      exact q2 e
theorem d_looked_at {CN CT C CM T : Addr} (A : At K mg "_looked_at" s_looked_at) (bi : Bi mg) (nc : NodeC K CN) (tc : TreeC K CT) (d_check_word : Dd P w K mg base (L2.CX P w) 2 "check_word" ["thing"] (spCheck C T)) (d_check_most : Dd P w K mg base (L2.CX P w) 1 "_check_most" ["thing"] (spMost CM)) (d_Tree_top : Dm P w K mg base CX0 1 CT "top" ["self"] (spTop CN CT)) (d_first_row : Dd P w K mg base CX0 1 "first_row" ["word"] (spFirst)) (d_next_row : Dd P w K mg base CX0 1 "next_row" ["above", "letter", "word"] (spNext K)) : Dd P w K mg base (L2.CX P w) 3 "_looked_at" ["tree", "word", "most"] (spLooked CN CT C CM T) := by
  have sc := sc_looked_at
  refine A.okX sc (fun _ _ _ _ _ _ us hl => match us, hl with | [_, _, _], _ => rfl) (fun vs H Q E h => ?_) (fun f cdv A outer s H vs Q E hr h => ?_)
  · obtain ⟨_, _, _, _, _, _, _, rfl, _⟩ := h; rfl
  have hu := hu_of hr
  have tk := takes_of (X := cxOf (L2.CX P w) P w K mg base n_looked_at "_looked_at" (defScope s_looked_at) f cdv A outer s H E) rfl rfl rfl rfl
  obtain ⟨t, x, y, U, Ty, W, F, rfl, kx, hx, ky, hT, tv, h4, q, n1, n2⟩ := h
  refine ⟨_, (pss_cons (ps_expr (pe_callDS d_check_word (hr.mono (by decide)) rfl (fun σ => passAt tk σ) (by exact (pa_cons (pv 1) pa_nil))))
  (pss_cons (ps_expr (pe_callDS d_check_most (hr.mono (by decide)) rfl (fun σ => passAt tk σ) (by exact (pa_cons (pv 2) pa_nil))))
  (pss_cons (ps_set (i := 3) sc.nd rfl (Or.inl rfl) (pe_lst pa_nil))
  (pss_cons (ps_set (i := 4) sc.nd rfl (Or.inl rfl) (pe_lst (pa_cons (pe_tup (pa_cons pe_str (pa_cons (pe_methD0 d_Tree_top (pv 0) (hr.mono (by decide)) pass0) (pa_cons (pe_callD d_first_row (hr.mono (by decide)) rfl pass0 (pa_cons (pv 1) pa_nil)) pa_nil)))) pa_nil)))
  (pss_cons (ps_while (passes_of rfl) (pt_tru (pv 4) (by intro _; rfl)) (pss_cons (ps_asg (pe_bm0 PySem.F.plainAttrs_list PySem.F.slot_list_pop PySem.F.type_list_pop mt_pop (pv 4)) (pg_tup rfl (pgs_cons (pg_name (i := 5) sc.nd rfl (Or.inl rfl)) (pgs_cons (pg_name (i := 6) sc.nd rfl (Or.inl rfl)) (pgs_cons (pg_name (i := 7) sc.nd rfl (Or.inl rfl)) pgs_nil)))))
  (pss_one (ps_if (pt_cmpR op_le (pe_callB (cr_min rfl) (by rfl) bi.n_min (by decide +kernel) (pa_cons (pv 7) pa_nil)) (pv 2) (nomark _)) (pss_cons (ps_expr (pe_bm PySem.F.plainAttrs_list PySem.F.slot_list_append PySem.F.type_list_append mt_append (pv 3) (pa_cons (pe_tup (pa_cons (pv 5) (pa_cons (pe_fld (pv 6) rfl) (pa_cons (pe_ix ix_list (pv 7) (pe_un un_neg pe_int) (fun _ _ => rfl)) pa_nil)))) pa_nil)))
  (pss_one (ps_lock (ps_for (passes_of rfl) rfl (pi_items (pe_fld (pv 6) rfl)) (pg_tup rfl (pgs_cons (pg_name (i := 8) sc.nd rfl (Or.inl rfl)) (pgs_cons (pg_name (i := 9) sc.nd rfl (Or.inl rfl)) pgs_nil))) (pss_one (ps_expr (pe_bm PySem.F.plainAttrs_list PySem.F.slot_list_append PySem.F.type_list_append mt_append (pv 4) (pa_cons (pe_tup (pa_cons (pe_op o_addS (pv 5) (pv 8)) (pa_cons (pv 9) (pa_cons (pe_callD d_next_row (hr.mono (by decide)) rfl pass0 (pa_cons (pv 7) (pa_cons (pv 8) (pa_cons (pv 1) pa_nil)))) pa_nil)))) pa_nil)))))))) pss_nil))))
  (pss_one (ps_ret (pv 3)))))))), ?_⟩
  refine g_start (show L2.start _ _ = [some _, some _, some _, none, none, none, none, none, none, none] from rfl) ?_
  walk_at "u"
  refine ⟨x, U, rfl, kx, hx, hT, fun ok => ?_, fun no => n1 no H (Same.refl _)⟩
  walk_at "u"
  refine ⟨y, Ty, rfl, ky, fun ok2 => ?_, fun no => n2 ok no H (Same.refl _)⟩
  obtain ⟨l, rfl, hw, hl⟩ := wordB_inv ok
  obtain ⟨m, rfl, hm⟩ := okP_inv ok2
  have qq := q l m rfl rfl hw hl (by omega)
  obtain ⟨L0, dt, et, tr0, hf⟩ := id tv.ex
  walk_at "v"
  refine ⟨by show 0 ≤ sizeLine; decide, fun S hS => ?_⟩
  have s1 : Same H (upd H S (.lst [])) := Same.new hS
  have hS1 : upd H S (.lst []) S = some (.lst []) := upd_same
  generalize upd H S (.lst []) = H1 at s1 hS1
  walk_at "v"
  refine ⟨t, dt, _, rfl, s1 _ _ et, lk_not rfl, ?_⟩
  walk_at "u"
  refine ⟨t, W, F, rfl, tv.same s1, fun L tr1 => ?_⟩
  walk_at "u"
  refine ⟨l, rfl, by omega, fun R0 H2 s2 hR0 e2 => ?_⟩
  walk_at "u"
  refine ⟨by show 3 ≤ sizeLine; decide, fun T0 hT0 => ?_⟩
  walk_at "u"
  refine ⟨by show 1 ≤ sizeLine; decide, fun A hA => ?_⟩
  have s3 : Same H2 (upd H2 T0 (.tup [.str (mkS (Str.ofString "").cps.toList), .ref (L.ad []), .ref R0])) := Same.new hT0
  have s4 := s3.trans (Same.new (o := .lst [.ref T0]) hA)
  have eT : (upd H2 T0 (.tup [.str (mkS (Str.ofString "").cps.toList), .ref (L.ad []), .ref R0])) T0 = some (.tup [.str (mkS []), .ref (L.ad []), .ref R0]) := by rw [upd_same, show (Str.ofString "").cps.toList = [] from by decide +kernel]
  have hA1 : H1 A = none := s2.free (s3.free hA)
  have hAS : A ≠ S := fun z => by rw [z, hS1] at hA1; cases hA1
  have hA0 : H A = none := s1.free hA1
  have e3 : upd (upd H2 T0 (.tup [.str (mkS (Str.ofString "").cps.toList), .ref (L.ad []), .ref R0])) A (.lst [.ref T0]) A = some (.lst [.ref T0]) := upd_same
  have a0 : AheadV L l S A (upd (upd H2 T0 (.tup [.str (mkS (Str.ofString "").cps.toList), .ref (L.ad []), .ref R0])) A (.lst [.ref T0])) (.ref T0) [] :=
    ⟨T0, R0, rfl, (Same.new (o := .lst [.ref T0]) hA) _ _ eT, s4 _ _ e2, (fun z => by rw [z, hS1] at hR0; cases hR0), ne_of_none (s3 _ _ e2) hA⟩
  have many := nodesOf_len W fun w hw => (tv.word hw).2
  walk_at "u"
  refine g_while (fun μ σ' H' => ∃ (st dn qs : List (List Nat)) (as xs : List V) (v1 v2 v3 v4 v5 : Option V), σ' = [some (.ref t), some (.str (mkS l)), some (.int (m : Nat)), some (.ref S), some (.ref A), v1, v2, v3, v4, v5] ∧ μ = (nodesOf W).length - dn.length ∧
    But S H1 H' ∧ H' S = some (.lst xs) ∧ H' A = some (.lst as) ∧ Srch W m l st dn qs ∧ Each (AheadV L l S A H') as st ∧ Each (SeenV W l H') xs qs) _
    ⟨[[]], [], [], _, [], none, none, none, none, none, rfl, rfl, Same.but (s2.trans s4), s4 _ _ (s2 _ _ hS1), upd_same, Srch.init, Each.one a0, Each.nil⟩ ?_
  rintro μ σ' H3 ⟨st, dn, qs, as, xs, v1, v2, v3, v4, v5, rfl, rfl, b0, eS, eA, sr, ea, es⟩
  have sS : SqL K H3 A as := SqL.of eA
  walk_at "u"
  refine ⟨!as.isEmpty, .inl ⟨as, sS, rfl⟩, ?_⟩
  rcases List.eq_nil_or_concat st with hst | ⟨st, p, rfl⟩
  · subst hst
    have e0 : as = [] := List.length_eq_zero_iff.mp ea.len
    subst e0
    refine g_ifF ?_
    walk_at "u"
    exact qq qs xs S H3 sr.qnd sr.fin (But.from b0 s1 hS) hS eS es (by have := sr.sees; omega)
  rw [List.concat_eq_append] at sr ea
  obtain ⟨x, as, rfl, eaa, a, r, rfl, ex, er, nr1, nr2⟩ := ea.last
  have hp : Nd W p := sr.nn p (by simp)
  have tr3 := tr1.but b0 hS1
  have hlen := tr3.len p hp
  have few := sr.few
  have ne : (!(as ++ [V.ref a]).isEmpty) = true := by simp
  rw [ne]
  refine g_ifT (g_turn ?_)
  have aA : a ≠ A := fun z => by rw [z, eA] at ex; cases ex
  have aS : a ≠ S := fun z => by rw [z, eS] at ex; cases ex
  -- the last one is taken
  have b4 : But A H3 (upd H3 A (.lst as)) := (Same.but (Same.refl _)).wr
  have p4 : Pl2 S A H3 (upd H3 A (.lst as)) := b4.plA
  walk_at "u"
  refine g_BM0 ?_
  walk_at "u"
  refine ⟨Or.inl ⟨rfl, _, sS⟩, A, _, .ref a, rfl, rfl, eA, by simp, ?_⟩
  rw [List.dropLast_concat]
  have b14 : But S H1 (upd H3 A (.lst as)) := b0.new hA1
  have eA4 : upd H3 A (.lst as) A = some (.lst as) := upd_same
  have eS4 : upd H3 A (.lst as) S = some (.lst xs) := b4 _ _ eS hAS.symm
  have ex4 := b4 _ _ ex aA
  have er4 := b4 _ _ er nr2
  have ea4 := eaa.mono fun x q v => v.pl p4 eS eA
  have es4 := es.mono fun x q v => v.pl p4 eS eA
  generalize upd H3 A (.lst as) = H4 at b14 eA4 eS4 ex4 er4 ea4 es4
  refine g_triple (SqT.of ex4) ?_
  have tr4 := tr1.but b14 hS1
  have sr4 : SqL K H4 r (rowV (Lv.row p l)) := SqL.of er4
  walk_at "u"
  refine g_minRow sr4 fun n0 hn0 => ?_
  walk_at "u"
  have en : decide ((n0 : Int) ≤ (m : Nat)) = decide (n0 ≤ m) := by rw [Bool.eq_iff_iff, decide_eq_true_iff, decide_eq_true_iff]; omega
  rw [en]
  refine g_if (fun hle => ?_) (fun hle => ?_)
  rotate_left
  · walk_at "u"
    have nn : ¬ Lv.Nearb m p l := fun z => hle ((hn0 m).mpr z)
    have few2 := (sr.no nn).few
    rw [List.length_append, List.length_cons] at few2
    exact ⟨(nodesOf W).length - (p :: dn).length, by rw [List.length_cons]; omega, st, p :: dn, qs, as, xs, _, _, _, _, _, rfl, rfl, b14, eS4, eA4, sr.no nn, ea4, es4⟩
  have hnear := (hn0 m).mp hle
  have sr' := sr.yes hnear (tr4.kids p hp) (tr4.nod p hp)
  have few2 := sr'.few
  have sees2 := sr'.sees
  rw [List.length_append, List.length_cons] at few2
  have few3 : (st ++ (L.kd p).map fun c => p ++ [c]).length ≤ 10001 := by omega
  walk_at "u"
  refine ⟨Or.inl ⟨rfl, _, SqL.of eS4⟩, ?_⟩
  walk_at "v"
  refine g_kept nc tr4 hp ?_
  walk_at "u"
  have e4 := row_at (l := p) (r := l) (i := p.length) (j := l.length) (Nat.le_refl _)
  rw [List.take_length, List.take_length] at e4
  refine g_ixL sr4 (atI_neg1 (i := l.length) (by rw [rowV_len, Lv.row_len]) e4) ?_
  walk_at "u"
  refine ⟨by show 3 ≤ sizeLine; decide, fun T1 hT1 => ?_⟩
  have s5 : Same H4 (upd H4 T1 (.tup [.str (mkS p), .bl (decide (p ∈ W)), .int ((Lv.lev p l : Nat))])) := Same.new hT1
  have e5 : upd H4 T1 (.tup [.str (mkS p), .bl (decide (p ∈ W)), .int ((Lv.lev p l : Nat))]) T1 = some (.tup [.str (mkS p), .bl (decide (p ∈ W)), .int ((Lv.lev p l : Nat))]) := upd_same
  generalize upd H4 T1 (.tup [.str (mkS p), .bl (decide (p ∈ W)), .int ((Lv.lev p l : Nat))]) = H5 at s5 e5
  walk_at "u"
  have xl : xs.length ≤ 10001 := by have := es.len; have := sr.sees; omega
  have T1S : T1 ≠ S := fun z => by rw [z, eS4] at hT1; cases hT1
  refine g_append (s5 _ _ eS4) (by omega) ?_
  have b56 : But S H5 (upd H5 S (.lst (xs ++ [.ref T1]))) := (Same.but (Same.refl _)).wr
  have b6 : But S H1 (upd H5 S (.lst (xs ++ [.ref T1]))) := (b14.same s5).trans b56
  have eS6 : upd H5 S (.lst (xs ++ [.ref T1])) S = some (.lst (xs ++ [.ref T1])) := upd_same
  have eA6 : upd H5 S (.lst (xs ++ [.ref T1])) A = some (.lst as) := b56 _ _ (s5 _ _ eA4) hAS
  have er6 := b56 _ _ (s5 _ _ er4) nr1
  have ea6 := ea4.mono fun x q v => (v.pl (Same.pl2 s5) eS4 eA4).pl (S := S) (A := A) b56.plS (s5 _ _ eS4) (s5 _ _ eA4)
  have es6 := (es4.mono fun x q v => (v.pl (S := S) (A := A) (Same.pl2 s5) eS4 eA4).pl (S := S) (A := A) b56.plS (s5 _ _ eS4) (s5 _ _ eA4)).app (Each.one (R := SeenV W l (upd H5 S (.lst (xs ++ [.ref T1])))) (x := .ref T1) (q := p) ⟨T1, rfl, b56 _ _ e5 T1S⟩)
  generalize upd H5 S (.lst (xs ++ [.ref T1])) = H6 at b6 eS6 eA6 er6 ea6 es6
  have tr6 := tr1.but b6 hS1
  have ed := tr6.dic p hp
  have nd := tr6.nod p hp
  have dS : L.bd p ≠ S := fun z => by rw [z, eS6] at ed; cases ed
  have dA : L.bd p ≠ A := fun z => by rw [z, eA6] at ed; cases ed
  walk_at "u"
  refine ⟨L.bd p, _, ed, trivial, fun od => ?_⟩
  have u6 : ∀ x u, H6 x = some u → x ≠ L.bd p → upd H6 (L.bd p) (.frz od (.dK (kidV L p (L.kd p)))) x = some u := fun x u e n => by rw [upd_ne n]; exact e
  have pL : Pl2 S A H6 (upd H6 (L.bd p) (.frz od (.dK (kidV L p (L.kd p))))) := fun x u e pl _ _ => u6 x u e fun z => by rw [z, ed] at e; injection e with e; subst e; exact pl
  walk_at "u"
  refine g_fldI (u6 _ _ (tr6.obj p hp) (tr6.ab hp hp)) nc.cl nc.nb lk_below ?_
  refine ⟨L.bd p, od, _, rfl, upd_same, ?_⟩
  have eAL := u6 _ _ eA6 dA.symm
  have eSL := u6 _ _ eS6 dS.symm
  have erL := pL _ _ er6 trivial nr1 nr2
  have eaL := ea6.mono fun x q v => v.pl pL eS6 eA6
  have edL : upd H6 (L.bd p) (.frz od (.dK (kidV L p (L.kd p)))) (L.bd p) = some (.frz od (.dK (kidV L p (L.kd p)))) := upd_same
  refine for_it walk_items (fun i σ' H' => ∃ (as' : List V) (v4 v5 : Option V), σ' = [some (.ref t), some (.str (mkS l)), some (.int (m : Nat)), some (.ref S), some (.ref A), some (.str (mkS p)), some (.ref (L.ad p)), some (.ref r), v4, v5] ∧
    But A (upd H6 (L.bd p) (.frz od (.dK (kidV L p (L.kd p))))) H' ∧ H' A = some (.lst as') ∧ Each (AheadV L l S A H') as' (st ++ ((L.kd p).take i).map fun c => p ++ [c]))
    ⟨as, v4, v5, rfl, (Same.but (Same.refl _)), eAL, by rw [List.take_zero, List.map_nil, List.append_nil]; exact eaL⟩ (fun i σ' H' _ ⟨_, _, _, _, b, _⟩ => b _ _ edL dA) ?_ ?_
  · rintro i x σ' H7 H8 hi ⟨as', w4, w5, rfl, b7, eA7, ea7⟩ ⟨T2, kx, vx, rfl, hT2, rfl, hkx, hvx⟩
    obtain ⟨c, hc, rfl, rfl⟩ := kidV_get hkx hvx
    refine g_pair (SqT.of upd_same) ?_
    have eS7 := b7 _ _ eSL hAS.symm
    have er7 := b7 _ _ erL nr2
    have s8 : Same H7 (upd H7 T2 (.tup [.str (mkS [c]), .ref (L.ad (p ++ [c]))])) := Same.new hT2
    have b8 : But A (upd H6 (L.bd p) (.frz od (.dK (kidV L p (L.kd p))))) (upd H7 T2 (.tup [.str (mkS [c]), .ref (L.ad (p ++ [c]))])) := b7.trans (Same.but s8)
    have eA8 := s8 _ _ eA7
    have eS8 := s8 _ _ eS7
    have er8 := s8 _ _ er7
    have ea8 := ea7.mono fun x q v => v.pl (Same.pl2 s8) eS7 eA7
    generalize upd H7 T2 (.tup [.str (mkS [c]), .ref (L.ad (p ++ [c]))]) = H8 at s8 b8 eA8 eS8 er8 ea8
    have al : as'.length ≤ 10001 := by
      rw [ea8.len, List.length_append, List.length_map, List.length_take]
      rw [List.length_append, List.length_map] at few3
      omega
    walk_at "u"
    refine ⟨Or.inl ⟨rfl, _, SqL.of eA8⟩, ?_⟩
    walk_at "v"
    refine ⟨r, p, l, c, rfl, SqL.of er8, by omega, fun D2 H9 s9 hD2 e9 => ?_⟩
    walk_at "u"
    refine ⟨by show 3 ≤ sizeLine; decide, fun T3 hT3 => ?_⟩
    have s10 : Same H9 (upd H9 T3 (.tup [.str (mkS (p ++ [c])), .ref (L.ad (p ++ [c])), .ref D2])) := Same.new hT3
    have e10 : upd H9 T3 (.tup [.str (mkS (p ++ [c])), .ref (L.ad (p ++ [c])), .ref D2]) T3 = some (.tup [.str (mkS (p ++ [c])), .ref (L.ad (p ++ [c])), .ref D2]) := upd_same
    generalize upd H9 T3 (.tup [.str (mkS (p ++ [c])), .ref (L.ad (p ++ [c])), .ref D2]) = H10 at s10 e10
    have s11 := s9.trans s10
    have eA10 := s11 _ _ eA8
    have eS10 := s11 _ _ eS8
    have b11 : But A H10 (upd H10 A (.lst (as' ++ [.ref T3]))) := (Same.but (Same.refl _)).wr
    have nD2A : D2 ≠ A := fun z => by rw [z, eA8] at hD2; cases hD2
    have nD2S : D2 ≠ S := fun z => by rw [z, eS8] at hD2; cases hD2
    have nT3A : T3 ≠ A := fun z => by rw [z, eA10] at e10; cases e10
    walk_at "u"
    refine g_append eA10 (by omega) ?_
    refine ⟨_, _, _, rfl, (b8.trans (Same.but s11)).trans b11, upd_same, ?_⟩
    rw [take_snoc hc, List.map_append, ← List.append_assoc]
    exact (ea8.mono fun x q v => (v.pl (Same.pl2 s11) eS8 eA8).pl (S := S) (A := A) b11.plA eS10 eA10).app (Each.one ⟨T3, D2, rfl, b11 _ _ e10 nT3A, b11 _ _ (s10 _ _ e9) nD2A, nD2S, nD2A⟩)
  · rintro σ' H7 ⟨as', w4, w5, rfl, b7, eA7, ea7⟩
    rw [kidV_len, List.take_length] at ea7
    have ed7 := b7 _ _ edL dA
    have eS7 := b7 _ _ eSL hAS.symm
    refine ⟨ed7, (nodesOf W).length - (p :: dn).length, by rw [List.length_cons]; omega, _, p :: dn, _, as', xs ++ [.ref T1], _, _, _, _, _, rfl, rfl, ?_, ?_, ?_, sr', ?_, ?_⟩
    · intro x u e n
      have e6 := b6 x u e n
      by_cases hx : x = L.bd p
      · subst hx
        rw [upd_same]
        rw [ed] at e6
        exact e6
      · rw [upd_ne hx]
        exact b7 _ _ (u6 _ _ e6 hx) (ne_of_none e hA1)
    · rw [upd_ne dS.symm]; exact eS7
    · rw [upd_ne dA.symm]; exact eA7
    · have pU : Pl2 S A H7 (upd H7 (L.bd p) (.dK (kidV L p (L.kd p)))) := fun x u e pl _ _ => by
        by_cases hx : x = L.bd p
        · subst hx; rw [ed7] at e; injection e with e; subst e; exact absurd pl id
        · rw [upd_ne hx]; exact e
      exact ea7.mono fun x q v => v.pl pU eS7 eA7
    · have pU : Pl2 S A H6 (upd H7 (L.bd p) (.dK (kidV L p (L.kd p)))) := fun x u e pl _ n2 => by
        by_cases hx : x = L.bd p
        · subst hx; rw [ed] at e; injection e with e; subst e; exact absurd pl id
        · rw [upd_ne hx]; exact b7 _ _ (u6 _ _ e hx) n2
      exact es6.mono fun x q v => v.pl pU eS6 eA6
theorem d_near {CN CT C CM T : Addr} (A : At K mg "near" s_near) (bi : Bi mg) (d_looked_at : Dd P w K mg base (L2.CX P w) 3 "_looked_at" ["tree", "word", "most"] (spLooked CN CT C CM T)) (d_way : Dd P w K mg base CX0 4 "way" ["one", "other"] (spWay T)) : Dd P w K mg base (L2.CX P w) 5 "near" ["tree", "word", "most"] (spNear CN CT C CM T) := by
  have sc := sc_near
  refine A.okX sc (fun _ _ _ _ _ _ us hl => match us, hl with | [_, _, _], _ => rfl) (fun vs H Q E h => ?_) (fun f cdv A outer s H vs Q E hr h => ?_)
  · obtain ⟨_, _, _, _, _, _, _, rfl, _⟩ := h; rfl
  have hu := hu_of hr
  have tk := takes_of (X := cxOf (L2.CX P w) P w K mg base n_near "near" (defScope s_near) f cdv A outer s H E) rfl rfl rfl rfl
  obtain ⟨t, x, y, U, Ty, W, F, rfl, kx, hx, ky, hT, tv, h4, q, n1, n2⟩ := h
  refine ⟨_, (pss_cons (ps_set (i := 3) sc.nd rfl (Or.inl rfl) (pe_lst pa_nil))
  (pss_cons (ps_for (passes_of rfl) rfl (pi_list (pe_callDS d_looked_at (hr.mono (by decide)) rfl (fun σ => passAt tk σ) (by exact (pa_cons (pv 0) (pa_cons (pv 1) (pa_cons (pv 2) pa_nil)))))) (pg_tup rfl (pgs_cons (pg_name (i := 4) sc.nd rfl (Or.inl rfl)) (pgs_cons (pg_name (i := 5) sc.nd rfl (Or.inl rfl)) (pgs_cons (pg_name (i := 6) sc.nd rfl (Or.inl rfl)) pgs_nil)))) (pss_one (ps_if (PW.pt (pw_and (pt_val (pv 5)) (pw_and1 (pt_cmpR op_le (pv 6) (pv 2) (nomark _))))) (pss_one (ps_expr (pe_bm PySem.F.plainAttrs_list PySem.F.slot_list_append PySem.F.type_list_append mt_append (pv 3) (pa_cons (pe_tup (pa_cons (pv 6) (pa_cons (pv 4) pa_nil))) pa_nil)))) pss_nil)))
  (pss_one (ps_ret (pe_lc (own := [("away", 6), ("text", 4)]) (g := gTup K 2 (gCons (gName 6) (gCons (gName 4) gNil))) (tt := tYes) (te := tTup (tCons (tVar 4) (tCons (tCall (spWay T) [] E0 (tCons (tVar 1) (tCons (tVar 4) tNil))) tNil))) (by rfl) sc.nd (pi_list (pe_callB (id := "sorted") (r := rSortIS K) c_sortIS (by rfl) bi.n_sorted (by decide +kernel) (pa_cons (pv 3) pa_nil))) (blkOk_by (own := [("away", 6), ("text", 4)]) (N := n_near) (sc := defScope s_near) (by decide +kernel)) (fun _ _ _ _ _ => (pg_tup rfl (pgs_cons (pg_name (i := 6) sc.nd rfl (Or.inl rfl)) (pgs_cons (pg_name (i := 4) sc.nd rfl (Or.inl rfl)) pgs_nil)))) (fun _ _ _ _ _ => pts_nil) (fun _ _ _ _ _ => (pe_tup (pa_cons (pv 4) (pa_cons (pe_callD d_way (hr.mono (by decide)) rfl pass0 (pa_cons (pv 1) (pa_cons (pv 4) pa_nil))) pa_nil))))))))), ?_⟩
  refine g_start (show L2.start _ _ = [some _, some _, some _, none, none, none, none] from rfl) ?_
  walk_at "v"
  refine ⟨by show 0 ≤ sizeLine; decide, fun F0 hF0 => ?_⟩
  have s1 : Same H (upd H F0 (.lst [])) := Same.new hF0
  have eF1 : upd H F0 (.lst []) F0 = some (.lst []) := upd_same
  generalize upd H F0 (.lst []) = H1 at s1 eF1
  walk_at "u"
  refine ⟨t, x, y, U, Ty, W, F, rfl, kx.same s1, hx, ky.same s1, hT.same s1, tv.same s1, h4, fun l m ex ey hw hl hm qs xs D H2 hn hq s2 hD eD es hf => ?_, fun no H2 s2 => n1 no H2 (s1.trans s2), fun ok no H2 s2 => n2 ok no H2 (s1.trans s2)⟩
  have qq := q l m ex ey hw hl hm
  subst ex ey
  have hF12 : F0 ≠ D := fun z => by rw [← z, eF1] at hD; cases hD
  walk_at "u"
  refine g_inLg (SqL.of eD) (fun i σ' H' => ∃ (ps : List V) (v1 v2 v3 : Option V), σ' = [some (.ref t), some (.str (mkS l)), some (.int (m : Nat)), some (.ref F0), v1, v2, v3] ∧ But F0 H2 H' ∧ H' F0 = some (.lst ps) ∧ Each (PairV l H') ps ((qs.take i).filter fun q => decide (q ∈ W) && decide (Lv.lev q l ≤ m)))
    ⟨[], none, none, none, rfl, Same.but (Same.refl _), s2 _ _ eF1, Each.nil⟩ (fun i σ' H' _ ⟨_, _, _, _, _, b, _⟩ => SqL.of (b _ _ eD hF12.symm)) ?_ ?_
  · rintro i z σ' H3 hz ⟨ps, v1, v2, v3, rfl, b, eF, ep⟩
    have hi : i < xs.length := (List.getElem?_eq_some_iff.mp hz).1
    have hiq : i < qs.length := by rw [← es.len]; exact hi
    have hq0 : qs[i]? = some qs[i] := List.getElem?_eq_getElem hiq
    generalize qs[i] = q0 at hq0
    obtain ⟨a0, rfl, ea0⟩ := es.at_ i z q0 hz hq0
    have ea := b _ _ ea0 (fun z => by rw [z, s2 _ _ eF1] at ea0; cases ea0)
    have tk1 := take_snoc_ hq0
    have few : ps.length ≤ 10001 := by
      rw [ep.len]
      have h1 := List.length_filter_le (fun q => decide (q ∈ W) && decide (Lv.lev q l ≤ m)) (qs.take i)
      rw [List.length_take] at h1
      omega
    refine g_triple (SqT.of ea) ?_
    walk_at "u"
    refine g_if (fun h1 => ?_) (fun h1 => ?_)
    · walk_at "u"
      refine g_if (fun h2 => ?_) (fun h2 => ?_)
      · have h2 : Lv.lev q0 l ≤ m := by omega
        walk_at "u"
        refine ⟨Or.inl ⟨rfl, _, SqL.of eF⟩, ?_⟩
        walk_at "v"
        refine ⟨by show 2 ≤ sizeLine; decide, fun T1 hT1 => ?_⟩
        have s3 : Same H3 (upd H3 T1 (.tup [.int ((Lv.lev q0 l : Nat)), .str (mkS q0)])) := Same.new hT1
        have b4 : But F0 (upd H3 T1 (.tup [.int ((Lv.lev q0 l : Nat)), .str (mkS q0)])) (upd (upd H3 T1 (.tup [.int ((Lv.lev q0 l : Nat)), .str (mkS q0)])) F0 (.lst (ps ++ [.ref T1]))) := (Same.but (Same.refl _)).wr
        have nT : T1 ≠ F0 := fun z => by rw [z, eF] at hT1; cases hT1
        walk_at "u"
        refine g_append (s3 _ _ eF) (by omega) ?_
        walk_at "u"
        refine ⟨_, _, _, _, rfl, (b.trans (Same.but s3)).trans b4, upd_same, ?_⟩
        rw [tk1, List.filter_append, List.filter_cons_of_pos (by rw [decide_eq_true h1, decide_eq_true h2]; rfl), List.filter_nil]
        exact (ep.mono fun x q v => (v.same s3).but b4 (s3 _ _ eF)).app (Each.one ⟨T1, rfl, b4 _ _ upd_same nT⟩)
      · walk_at "u"
        refine ⟨ps, _, _, _, rfl, b, eF, ?_⟩
        rw [tk1, List.filter_append, List.filter_cons_of_neg (by rw [decide_eq_false (show ¬ Lv.lev q0 l ≤ m by omega), Bool.and_false]; decide), List.filter_nil, List.append_nil]
        exact ep
    · walk_at "u"
      refine ⟨ps, _, _, _, rfl, b, eF, ?_⟩
      rw [tk1, List.filter_append, List.filter_cons_of_neg (by rw [decide_eq_false h1, Bool.false_and]; decide), List.filter_nil, List.append_nil]
      exact ep
  rintro σ' H3 ⟨ps, v1, v2, v3, rfl, b, eF, ep⟩
  rw [es.len, List.take_length] at ep
  have s03 : Same H H3 := But.from b (s1.trans s2) hF0
  have b13 : But F0 H1 H3 := fun x u e n => b x u (s2 x u e) n
  walk_at "u"
  refine g_lc ?_
  walk_at "u"
  refine ⟨F0, ps, keyOf H3, rfl, SqL.of eF, fun z hz => ?_, fun ys D2 hs hp hD2 => ?_⟩
  · obtain ⟨q0, _, h⟩ := ep.mem hz
    rw [h.key]
    obtain ⟨t0, rfl, e0⟩ := h
    exact ⟨t0, rfl, e0⟩
  obtain ⟨ws, ew, pw, uw⟩ := sorted_words ep (List.Pairwise.filter _ hn) hp hs
  have mw : ∀ w, w ∈ ws ↔ w ∈ W ∧ Lv.lev l w ≤ m := fun w => by
    rw [pw.mem_iff, List.mem_filter, Bool.and_eq_true, decide_eq_true_iff, decide_eq_true_iff, hq w, Lv.lev_symm l w]
    exact ⟨fun z => z.2, fun z => ⟨⟨.inr ⟨w, z.1, List.prefix_refl _⟩, nearb_of z.2⟩, z⟩⟩
  have few : ws.length ≤ 400 := by
    have h1 : ws.Nodup := uw.imp fun h => nearLt_ne h
    have := h1.length_le_of_subset fun w hw => ((mw w).mp hw).1
    omega
  have s34 : Same H3 (upd H3 D2 (.lst ys)) := Same.new hD2
  have s04 := s03.trans s34
  have eD2 : upd H3 D2 (.lst ys) D2 = some (.lst ys) := upd_same
  have ew4 := ew.mono fun x q v => v.same s34
  generalize upd H3 D2 (.lst ys) = H4 at s34 s04 eD2 ew4
  refine ⟨D2, rfl, ⟨_, SqL.of eD2⟩, fun D3 hD3 => ?_⟩
  have nD3 : D2 ≠ D3 := ne_of_none eD2 hD3
  have h03 : H D3 = none := s04.free hD3
  refine lc_it (walk_list (xs := ys)) (fun i H' => ∃ zs : List V, Same H4 H' ∧ H' D3 = some (.lst zs) ∧ Each (NearV H D3 l H') zs (ws.take i)) ⟨[], Same.new hD3, upd_same, Each.nil⟩ (fun i H' _ ⟨_, s, _⟩ => s.seq (SqL.of eD2)) ?_ ?_
  · rintro i x H5 H6 hi ⟨zs, s5, e5, n5⟩ ⟨rfl, hx⟩
    have hiw : i < ws.length := by rw [← ew4.len]; exact (List.getElem?_eq_some_iff.mp hx).1
    have hw0 : ws[i]? = some ws[i] := List.getElem?_eq_getElem hiw
    generalize ws[i] = w0 at hw0
    obtain ⟨t0, rfl, e0⟩ := ew4.at_ i x w0 hx hw0
    obtain ⟨hwW, hwm⟩ := (mw w0).mp (List.mem_of_getElem? hw0)
    obtain ⟨hww, hwl⟩ := tv.word hwW
    refine g_pair (SqT.of (s5 _ _ e0)) ⟨rfl, g_yes ?_⟩
    walk_at "v"
    refine ⟨l, w0, rfl, hw, hww, hl, hwl, hT.same (s04.trans s5), fun p cs os H6 s6 hp6 e6 hlen hc hled hos => ?_⟩
    walk_at "u"
    refine ⟨by show 2 ≤ sizeLine; decide, fun T1 hT1 => ?_⟩
    have s7 : Same H6 (upd H6 T1 (.tup [.str (mkS w0), .ref p])) := Same.new hT1
    have e7 : upd H6 T1 (.tup [.str (mkS w0), .ref p]) T1 = some (.tup [.str (mkS w0), .ref p]) := upd_same
    generalize upd H6 T1 (.tup [.str (mkS w0), .ref p]) = H7 at s7 e7
    have eD7 := s7 _ _ (s6 _ _ e5)
    have b8 : But D3 H7 (upd H7 D3 (.lst (zs ++ [.ref T1]))) := (Same.but (Same.refl _)).wr
    have npD : p ≠ D3 := fun z => by rw [z, e5] at hp6; cases hp6
    have nTD : T1 ≠ D3 := fun z => by rw [z, eD7] at e7; cases e7
    have zl : zs.length ≤ 400 := by rw [n5.len, List.length_take]; omega
    refine ⟨zs, eD7, Nat.lt_of_le_of_lt zl (by decide), zs ++ [.ref T1], Same.wr ((s5.trans s6).trans s7) hD3, upd_same, ?_⟩
    rw [take_snoc_ hw0]
    refine (n5.mono fun x q v => ((v.same s6).same s7).but b8 eD7 upd_same).app (Each.one ?_)
    exact ⟨T1, p, cs, os, rfl, b8 _ _ e7 nTD, b8 _ _ (s7 _ _ e6) npD, hlen, fun i x o a c => cg_but ((hc i x o a c).same s7) b8 eD7 upd_same, hled, hos, (s04.trans s5).free hp6, npD⟩
  · rintro H5 ⟨zs, s5, e5, n5⟩
    rw [ew4.len, List.take_length] at n5
    exact qq ws zs D3 H5 ⟨uw, mw⟩ (s04.trans s5) h03 e5 n5
theorem d_law_at (A : At K mg "_law_at" s_law_at) (bi : Bi mg) : Dd P w K mg base CX0 1 "_law_at" ["_law_script", "_law_k"] (spAt K) := by
  have sc := sc_law_at
  refine A.ok sc (fun _ _ _ _ _ _ us hl => match us, hl with | [_, _], _ => rfl) (fun vs H Q E h => ?_) (fun f cdv A outer s H vs Q E hr h => ?_)
  · obtain ⟨_, _, _, rfl, _⟩ := h; rfl
  have hu := hu_of hr
  obtain ⟨a, ns, k, rfl, hS, q⟩ := h
  refine ⟨_, (pss_cons (ps_if (pt_cmpR op_lt (pv 1) (pe_callB c_lenL (by rfl) bi.n_len (by decide +kernel) (pa_cons (pv 0) pa_nil)) (nomark _)) (pss_one (ps_ret (pe_ix ix_list (pv 0) (pv 1) (fun _ _ => rfl)))) pss_nil)
  (pss_one (ps_ret pe_int))), ?_⟩
  refine g_start (show L2.start _ _ = [some _, some _] from rfl) ?_
  walk_at "v"
  refine g_if (fun h => ?_) (fun h => ?_)
  · rw [List.length_map] at h
    have hk : k < ns.length := by omega
    walk_at "v"
    refine g_ixL hS (at_of rfl (by rw [List.getElem?_map, List.getElem?_eq_getElem hk]; rfl)) ?_
    have e : atF ns k = ns[k] := by simp [atF, hk]
    rw [← e]; exact q
  · walk_at "v"
    rw [List.length_map] at h
    have e : atF ns k = 0 := by
      have hk : ¬ k < ns.length := by omega
      simp [atF, hk]
    rw [e] at q; exact q
theorem d_law_letter (A : At K mg "_law_letter" s_law_letter) (bi : Bi mg) : Dd P w K mg base CX0 1 "_law_letter" ["_law_mode", "_law_number"] (spLetter) := by
  have sc := sc_law_letter
  refine A.ok sc (fun _ _ _ _ _ _ us hl => match us, hl with | [_, _], _ => rfl) (fun vs H Q E h => ?_) (fun f cdv A outer s H vs Q E hr h => ?_)
  · obtain ⟨_, _, rfl, _⟩ := h; rfl
  have hu := hu_of hr
  obtain ⟨m, n, rfl, q⟩ := h
  refine ⟨_, (pss_cons (ps_set (i := 2) sc.nd rfl (Or.inl rfl) (pe_ix ix_list (pe_lst (pa_cons pe_int (pa_cons pe_int (pa_cons pe_int pa_nil)))) (pe_op op_mod (pv 0) pe_int) (fun _ _ => rfl)))
  (pss_cons (ps_set (i := 3) sc.nd rfl (Or.inl rfl) (pe_ix ix_list (pe_lst (pa_cons pe_int (pa_cons pe_int (pa_cons pe_int (pa_cons pe_int pa_nil))))) (pe_op op_mod (pe_op op_fdiv (pv 0) pe_int) pe_int) (fun _ _ => rfl)))
  (pss_one (ps_ret (pe_ix ix_str pe_str (pe_op op_mod (pe_op op_add (pe_op op_fdiv (pv 0) pe_int) (pe_op op_mul (pe_op op_mod (pv 1) (pv 2)) (pv 3))) pe_int) (fun _ _ => rfl)))))), ?_⟩
  refine g_start (show L2.start _ _ = [some _, some _, none, none] from rfl) ?_
  walk_at "v"
  refine ⟨by decide, fun p hp => ?_⟩
  walk_at "v"
  obtain ⟨a, ha, ea⟩ := menuI [2, 3, 26] (i := m % 3) (by omega) (by show m % 3 < 3; omega)
  refine g_ixL (SqL.of upd_same) ea ?_
  walk_at "v"
  refine ⟨by decide, fun p' hp' => ?_⟩
  walk_at "v"
  obtain ⟨b, hb, eb⟩ := menuI [1, 3, 5, 7] (i := m / 78 % 4) (by omega) (by show m / 78 % 4 < 4; omega)
  refine g_ixL (SqL.of upd_same) eb ?_
  have ha0 : 0 < a ∧ a ≤ 26 := by simp at ha; omega
  have hn0 : 0 ≤ n % a := Int.emod_nonneg _ (by omega)
  have hn1 : n % a < a := Int.emod_lt_of_pos _ (by omega)
  walk_at "v"
  obtain ⟨c, hc, hl⟩ := alpha_at (i := (m / 3 + n % a * b) % 26) (by omega) (by omega)
  refine g_ixS (by decide) hc ?_
  exact q c _ hl ((Same.new hp).trans (Same.new hp'))
theorem d_law_word (A : At K mg "_law_word" s_law_word) (bi : Bi mg) (d_law_letter : Dd P w K mg base CX0 1 "_law_letter" ["_law_mode", "_law_number"] (spLetter)) : Dd P w K mg base CX0 2 "_law_word" ["_law_mode", "_law_cell", "_law_most"] (spWord) := by
  have sc := sc_law_word
  refine A.ok sc (fun _ _ _ _ _ _ us hl => match us, hl with | [_, _, _], _ => rfl) (fun vs H Q E h => ?_) (fun f cdv A outer s H vs Q E hr h => ?_)
  · obtain ⟨_, _, _, rfl, _⟩ := h; rfl
  have hu := hu_of hr
  obtain ⟨m, n, most, rfl, hm, q⟩ := h
  refine ⟨_, (pss_cons (ps_set (i := 3) sc.nd rfl (Or.inl rfl) (pe_op op_mod (pv 1) (pe_op op_add (pv 2) pe_int)))
  (pss_cons (ps_set (i := 1) sc.nd rfl (Or.inl rfl) (pe_op op_fdiv (pv 1) (pe_op op_add (pv 2) pe_int)))
  (pss_cons (ps_set (i := 4) sc.nd rfl (Or.inl rfl) pe_str)
  (pss_cons (ps_for PassesOwn.never rfl (pi_range1 (by rfl) bi.n_range (pa_cons (pv 3) pa_nil)) (pg_name (i := 5) sc.nd rfl (Or.inl rfl)) (pss_cons (ps_set (i := 4) sc.nd rfl (Or.inl rfl) (pe_op o_addS (pv 4) (pe_callD d_law_letter (hr.mono (by decide)) rfl pass0 (pa_cons (pv 0) (pa_cons (pe_op op_add (pv 1) (pe_op op_mul pe_int (pv 5))) pa_nil)))))
  (pss_one (ps_set (i := 1) sc.nd rfl (Or.inl rfl) (pe_op op_fdiv (pv 1) pe_int)))))
  (pss_one (ps_ret (pv 4))))))), ?_⟩
  refine g_start (show L2.start _ _ = [some _, some _, some _, none, none, none] from rfl) ?_
  have b1 : 0 ≤ n % ((most : Int) + 1) := Int.emod_nonneg _ (by omega)
  have b2 : n % ((most : Int) + 1) < (most : Int) + 1 := Int.emod_lt_of_pos _ (by omega)
  walk_at "v"
  refine g_rng (by omega) (by omega) (fun i σ' H' => ∃ (x : Int) (l : List Nat) (kv : Option V), σ' = [some (.int m), some (.int x), some (.int most), some (.int (n % (most + 1))), some (.str (mkS l)), kv] ∧ Wd l ∧ l.length = i ∧ Same H H') ⟨_, [], none, rfl, Wd.nil, rfl, Same.refl _⟩ ?_ ?_
  · rintro i σ' H' hi ⟨x, l, kv, rfl, hw, hl, s0⟩
    walk_at "v"
    refine ⟨_, _, rfl, fun c H2 hc s1 => ?_⟩
    walk_at "v"
    exact ⟨_, _, _, rfl, hw.app (Wd.one hc), by rw [List.length_append, hl]; rfl, s0.trans s1⟩
  · rintro σ' H' ⟨x, l, kv, rfl, hw, hl, s0⟩
    walk_at "v"
    exact q l H' hw (by omega) s0
theorem d_law_whole (A : At K mg "_law_whole" s_law_whole) (bi : Bi mg) : Dd P w K mg base CX0 1 "_law_whole" ["_law_thing"] (spWhole) := by
  have sc := sc_law_whole
  refine A.ok sc (fun _ _ _ _ _ _ us hl => match us, hl with | [_], _ => rfl) (fun vs H Q E h => ?_) (fun f cdv A outer s H vs Q E hr h => ?_)
  · obtain ⟨_, _, rfl, _⟩ := h; rfl
  have hu := hu_of hr
  obtain ⟨x, T, rfl, k, q⟩ := h
  refine ⟨_, (pss_one (ps_ret (pe_and (pe_callB call_isK (by rfl) bi.n_isinstance (by decide +kernel) (pa_cons (pv 0) (pa_cons (pe_bltn (v := .ty "int") (by rfl) bi.n_int (by decide +kernel) rfl) pa_nil))) (pe_one (pe_not (pe_callB call_isK (by rfl) bi.n_isinstance (by decide +kernel) (pa_cons (pv 0) (pa_cons (pe_bltn (v := .ty "bool") (by rfl) bi.n_bool (by decide +kernel) rfl) pa_nil)))))))), ?_⟩
  refine g_start (show L2.start _ _ = [some _] from rfl) ?_
  walk_at "v"
  rw [← whole_is k] at q
  refine g_ifB (fun h => ?_) (fun h => ?_)
  · rw [h] at q
    walk_at "v"
    exact q
  · rw [h] at q
    exact q
theorem d_law_bent (A : At K mg "_law_bent" s_law_bent) (bi : Bi mg) (d_law_letter : Dd P w K mg base CX0 1 "_law_letter" ["_law_mode", "_law_number"] (spLetter)) : Dd P w K mg base CX0 2 "_law_bent" ["_law_mode", "_law_word_here", "_law_cell"] (spBent) := by
  have sc := sc_law_bent
  refine A.ok sc (fun _ _ _ _ _ _ us hl => match us, hl with | [_, _, _], _ => rfl) (fun vs H Q E h => ?_) (fun f cdv A outer s H vs Q E hr h => ?_)
  · obtain ⟨_, _, _, rfl, _⟩ := h; rfl
  have hu := hu_of hr
  obtain ⟨m, n, l, rfl, hw, hl, q⟩ := h
  refine ⟨_, (pss_cons (ps_for PassesOwn.never rfl (pi_range1 (by rfl) bi.n_range (pa_cons (pe_op op_mod (pv 2) pe_int) pa_nil)) (pg_name (i := 3) sc.nd rfl (Or.inl rfl)) (pss_cons (ps_set (i := 4) sc.nd rfl (Or.inl rfl) (pe_op op_add (pe_op op_fdiv (pv 2) pe_int) (pe_op op_mul pe_int (pv 3))))
  (pss_cons (ps_set (i := 5) sc.nd rfl (Or.inl rfl) (pe_op op_mod (pe_op op_fdiv (pv 4) pe_int) (pe_op op_add (pe_callB c_lenS (by rfl) bi.n_len (by decide +kernel) (pa_cons (pv 1) pa_nil)) pe_int)))
  (pss_cons (ps_set (i := 6) sc.nd rfl (Or.inl rfl) (pe_callD d_law_letter (hr.mono (by decide)) rfl pass0 (pa_cons (pv 0) (pa_cons (pe_op op_fdiv (pv 4) pe_int) pa_nil))))
  (Evl.pss_cut (ps_if (PW.pt (pw_and (pt_cmpR op_eq (pe_op op_mod (pv 4) pe_int) pe_int (nomark _)) (pw_and1 (pt_cmpR op_lt (pe_callB c_lenS (by rfl) bi.n_len (by decide +kernel) (pa_cons (pv 1) pa_nil)) pe_int (nomark _))))) (pss_one (ps_set (i := 1) sc.nd rfl (Or.inl rfl) (pe_op o_addS (pe_op o_addS (pe_slice sl_str (pv 1) po_none (po_some (pv 5))) (pv 6)) (pe_slice sl_str (pv 1) (po_some (pv 5)) po_none)))) (pss_one (ps_if (pt_cmpR op_eq (pe_op op_mod (pv 4) pe_int) pe_int (nomark _)) (pss_one (ps_set (i := 1) sc.nd rfl (Or.inl rfl) (pe_op o_addS (pe_slice sl_str (pv 1) po_none (po_some (pv 5))) (pe_slice sl_str (pv 1) (po_some (pe_op op_add (pv 5) pe_int)) po_none)))) (pss_one (ps_if (pt_cmpR op_lt (pv 5) (pe_callB c_lenS (by rfl) bi.n_len (by decide +kernel) (pa_cons (pv 1) pa_nil)) (nomark _)) (pss_one (ps_set (i := 1) sc.nd rfl (Or.inl rfl) (pe_op o_addS (pe_op o_addS (pe_slice sl_str (pv 1) po_none (po_some (pv 5))) (pv 6)) (pe_slice sl_str (pv 1) (po_some (pe_op op_add (pv 5) pe_int)) po_none)))) pss_nil)))))
  (pss_one (ps_set (i := 2) sc.nd rfl (Or.inl rfl) (pe_op op_fdiv (pv 2) pe_int))))))))
  (pss_one (ps_ret (pv 1)))), ?_⟩
  refine g_start (show L2.start _ _ = [some _, some _, some _, none, none, none, none] from rfl) ?_
  have b1 : 0 ≤ n % 4 := Int.emod_nonneg _ (by omega)
  have b2 : n % 4 < 4 := Int.emod_lt_of_pos _ (by omega)
  walk_at "u"
  refine g_rng (by omega) (by omega) (fun i σ' H' => ∃ (x : Int) (l' : List Nat) (v1 v2 v3 v4 : Option V), σ' = [some (.int m), some (.str (mkS l')), some (.int x), v1, v2, v3, v4] ∧ Wd l' ∧ l'.length ≤ 24 ∧ Same H H') ⟨n, l, none, none, none, none, rfl, hw, hl, Same.refl _⟩ ?_ ?_
  · rintro i σ' H' hi ⟨x, l', v1, v2, v3, v4, rfl, hw', hl', s0⟩
    have a0 : 0 ≤ (x / 4 + 11 * (i : Int)) / 3 % ((l'.length : Int) + 1) := Int.emod_nonneg _ (by omega)
    have a1 : (x / 4 + 11 * (i : Int)) / 3 % ((l'.length : Int) + 1) < (l'.length : Int) + 1 := Int.emod_lt_of_pos _ (by omega)
    walk_at "u"
    refine ⟨_, _, rfl, fun c H2 hc s1 => ?_⟩
    have s2 := s0.trans s1
    walk_at "u"
    refine g_cut (fun σ3 H3 => ∃ (l3 : List Nat) (w1 w2 w3 w4 : Option V), σ3 = [some (.int m), some (.str (mkS l3)), some (.int x), w1, w2, w3, w4] ∧ Wd l3 ∧ l3.length ≤ 24 ∧ Same H H3) ?_ ?_
    · have fin : ∀ (k1 k2 : Nat) (mid : List Nat), Wd mid → (l'.take k1 ++ mid ++ l'.drop k2).length ≤ 24 → ∃ (l3 : List Nat) (w1 w2 w3 w4 : Option V), [some (V.int m), some (.str (mkS (l'.take k1 ++ mid ++ l'.drop k2))), some (.int x), some (.int i), some (.int (x / 4 + 11 * (i : Int))), some (.int ((x / 4 + 11 * (i : Int)) / 3 % ((l'.length : Int) + 1))), some (.str (mkS [c]))] = [some (.int m), some (.str (mkS l3)), some (.int x), w1, w2, w3, w4] ∧ Wd l3 ∧ l3.length ≤ 24 ∧ Same H H2 :=
        fun k1 k2 mid hm hz => ⟨_, _, _, _, _, rfl, ((hw'.take k1).app hm).app (hw'.drop k2), hz, s2⟩
      have fin2 : ∀ (k1 k2 : Nat), (l'.take k1 ++ l'.drop k2).length ≤ 24 → ∃ (l3 : List Nat) (w1 w2 w3 w4 : Option V), [some (V.int m), some (.str (mkS (l'.take k1 ++ l'.drop k2))), some (.int x), some (.int i), some (.int (x / 4 + 11 * (i : Int))), some (.int ((x / 4 + 11 * (i : Int)) / 3 % ((l'.length : Int) + 1))), some (.str (mkS [c]))] = [some (.int m), some (.str (mkS l3)), some (.int x), w1, w2, w3, w4] ∧ Wd l3 ∧ l3.length ≤ 24 ∧ Same H H2 :=
        fun k1 k2 hz => ⟨_, _, _, _, _, rfl, (hw'.take k1).app (hw'.drop k2), hz, s2⟩
      have same : ∃ (l3 : List Nat) (w1 w2 w3 w4 : Option V), [some (V.int m), some (.str (mkS l')), some (.int x), some (.int i), some (.int (x / 4 + 11 * (i : Int))), some (.int ((x / 4 + 11 * (i : Int)) / 3 % ((l'.length : Int) + 1))), some (.str (mkS [c]))] = [some (.int m), some (.str (mkS l3)), some (.int x), w1, w2, w3, w4] ∧ Wd l3 ∧ l3.length ≤ 24 ∧ Same H H2 :=
        ⟨_, _, _, _, _, rfl, hw', hl', s2⟩
      have w1 := Wd.one hc
      walk_at "dfs"
      all_goals first
        | exact fin _ _ [c] w1 (by simp only [List.length_append, List.length_take, List.length_drop, List.length_cons, List.length_nil]; omega)
        | exact fin2 _ _ (by simp only [List.length_append, List.length_take, List.length_drop]; omega)
        | exact same
    · rintro σ3 H3 ⟨l3, w1, w2, w3, w4, rfl, hw3, hl3, s3⟩
      walk_at "u"
      exact ⟨_, _, _, _, _, _, rfl, hw3, hl3, s3⟩
  · rintro σ' H' ⟨x, l', v1, v2, v3, v4, rfl, hw', hl', s0⟩
    walk_at "u"
    exact q l' H' hw' hl' s0
theorem d_law_words (A : At K mg "_law_words" s_law_words) (bi : Bi mg) (d_law_at : Dd P w K mg base CX0 1 "_law_at" ["_law_script", "_law_k"] (spAt K)) (d_law_word : Dd P w K mg base CX0 2 "_law_word" ["_law_mode", "_law_cell", "_law_most"] (spWord)) (d_law_bent : Dd P w K mg base CX0 2 "_law_bent" ["_law_mode", "_law_word_here", "_law_cell"] (spBent)) : Dd P w K mg base CX0 3 "_law_words" ["_law_script"] (spWords1 K) := by
  have sc := sc_law_words
  refine A.ok sc (fun _ _ _ _ _ _ us hl => match us, hl with | [_], _ => rfl) (fun vs H Q E h => ?_) (fun f cdv A outer s H vs Q E hr h => ?_)
  · obtain ⟨_, _, rfl, _⟩ := h; rfl
  have hu := hu_of hr
  obtain ⟨a, ns, rfl, hS, q⟩ := h
  refine ⟨_, (pss_cons (ps_set (i := 1) sc.nd rfl (Or.inr rfl) (pe_callD d_law_at (hr.mono (by decide)) rfl pass0 (pa_cons (pv 0) (pa_cons pe_int pa_nil))))
  (pss_cons (ps_if (pt_cmpR op_eq (pe_op op_mod (pe_callD d_law_at (hr.mono (by decide)) rfl pass0 (pa_cons (pv 0) (pa_cons pe_int pa_nil))) pe_int) pe_int (nomark _)) (pss_one (ps_ret (pe_lc (own := [("_law_k", 2)]) (g := gName 2) (tt := tYes) (by rfl) sc.nd (pi_range1 (by rfl) bi.n_range (pa_cons pe_int pa_nil)) (blkOk_by (own := [("_law_k", 2)]) (N := n_law_words) (sc := defScope s_law_words) (by decide +kernel)) (fun _ _ _ _ _ => pg_name (i := 2) sc.nd rfl (Or.inl rfl)) (fun _ _ _ _ _ => pts_nil) (fun _ _ _ _ _ => (pe_callD d_law_word (hr.mono (by decide)) rfl pass0 (pa_cons (pv 1) (pa_cons (pe_op op_add (pe_callD d_law_at (hr.mono (by decide)) rfl pass0 (pa_cons (pv 0) (pa_cons pe_int pa_nil))) (pe_op op_mul pe_int (pv 2))) (pa_cons pe_int pa_nil)))))))) pss_nil)
  (pss_cons (ps_set (i := 3) sc.nd rfl (Or.inl rfl) pe_int)
  (pss_cons (ps_set (i := 4) sc.nd rfl (Or.inl rfl) (pe_slice sl_list (pv 0) (po_some pe_int) (po_some pe_int)))
  (Evl.pss_cut (ps_if (pt_cmpR op_eq (pe_op op_mod (pe_callD d_law_at (hr.mono (by decide)) rfl pass0 (pa_cons (pv 0) (pa_cons pe_int pa_nil))) pe_int) pe_int (nomark _)) (pss_cons (ps_set (i := 3) sc.nd rfl (Or.inl rfl) pe_int)
  (pss_one (ps_set (i := 4) sc.nd rfl (Or.inl rfl) (pe_slice sl_list (pv 0) (po_some pe_int) (po_some pe_int))))) pss_nil)
  (pss_cons (ps_set (i := 5) sc.nd rfl (Or.inl rfl) (pe_lst (pa_cons (pe_callD d_law_word (hr.mono (by decide)) rfl pass0 (pa_cons (pv 1) (pa_cons (pe_callD d_law_at (hr.mono (by decide)) rfl pass0 (pa_cons (pv 0) (pa_cons pe_int pa_nil))) (pa_cons (pv 3) pa_nil)))) pa_nil)))
  (pss_cons (ps_for PassesOwn.never rfl (pi_list (pv 4)) (pg_name (i := 6) sc.nd rfl (Or.inl rfl)) (pss_one (ps_if (pt_cmpR op_eq (pe_op op_mod (pv 6) pe_int) pe_int (nomark _)) (pss_one (ps_expr (pe_bm PySem.F.plainAttrs_list PySem.F.slot_list_append PySem.F.type_list_append mt_append (pv 5) (pa_cons (pe_callD d_law_word (hr.mono (by decide)) rfl pass0 (pa_cons (pv 1) (pa_cons (pe_op op_fdiv (pv 6) pe_int) (pa_cons (pv 3) pa_nil)))) pa_nil)))) (pss_one (ps_expr (pe_bm PySem.F.plainAttrs_list PySem.F.slot_list_append PySem.F.type_list_append mt_append (pv 5) (pa_cons (pe_callD d_law_bent (hr.mono (by decide)) rfl pass0 (pa_cons (pv 1) (pa_cons (pe_ix ix_list (pv 5) (pe_op op_mod (pe_op op_fdiv (pv 6) pe_int) (pe_callB c_lenL (by rfl) bi.n_len (by decide +kernel) (pa_cons (pv 5) pa_nil))) (fun _ _ => rfl)) (pa_cons (pe_op op_fdiv (pv 6) pe_int) pa_nil)))) pa_nil)))))))
  (pss_one (ps_ret (pv 5)))))))))), ?_⟩
  refine g_start (show L2.start _ _ = [some _, none, none, none, none, none, none] from rfl) ?_
  walk_at "u"
  refine ⟨a, ns, 0, rfl, hS, ?_⟩
  walk_at "u"
  refine ⟨a, ns, 1, rfl, hS, ?_⟩
  walk_at "u"
  refine g_if (fun _ => ?_) (fun _ => ?_)
  · walk_at "u"
    refine g_lc ?_
    walk_at "u"
    refine ⟨_, rfl, by decide, by decide, fun D hD => lc_it walk_range (fun i H' => ∃ ws : List (List Nat), ws.length = i ∧ AllW ws ∧ Same H H' ∧ H' D = some (.lst (wordsV ws))) ⟨[], rfl, AllW.nil, Same.new hD, upd_same⟩ (fun _ _ _ _ => trivial) ?_ ?_⟩
    · rintro i x H1 H' hi ⟨ws, hl, hw, s0, eD⟩ ⟨rfl, rfl⟩
      refine g_tgt rfl (g_yes ?_)
      walk_at "u"
      refine ⟨a, ns, 2, rfl, s0.seq hS, ?_⟩
      walk_at "u"
      refine ⟨_, _, 3, rfl, by decide, fun l H2 hwl hll s2 => ?_⟩
      have hi : i < 40 := hi
      exact ⟨_, s2 _ _ eD, by rw [wordsV_len]; exact Nat.lt_of_lt_of_le (show ws.length < 40 by omega) (by decide), ws ++ [l], by rw [List.length_append, hl]; rfl, hw.snoc hwl (by omega), Same.wr (s0.trans s2) hD, by rw [upd_same, wordsV_snoc]⟩
    · rintro H' ⟨ws, hl, hw, s0, eD⟩
      have hl : ws.length = 40 := hl
      exact q D ws H' s0 hD eD (by omega) (by omega) hw
  walk_at "u"
  rw [show ((4 : Int)) = ((4 : Nat) : Int) from rfl, show ((16 : Int)) = ((16 : Nat) : Int) from rfl]
  refine ⟨a, _, rfl, hS, fun C0 hC0 => ?_⟩
  obtain ⟨m0, em0⟩ := cutV_ints (ns := ns) (lo := some ((4 : Nat) : Int)) (hi := some ((16 : Nat) : Int))
  have l0 : m0.length ≤ 12 := by
    have := cutV_few (xs := ns.map V.int) (a := 4) (b := 16) (by decide)
    rw [em0, List.length_map] at this; omega
  rw [em0]
  have s1 : Same H (upd H C0 (.lst (m0.map V.int))) := Same.new hC0
  have e1 : upd H C0 (.lst (m0.map V.int)) C0 = some (.lst (m0.map V.int)) := upd_same
  generalize upd H C0 (.lst (m0.map V.int)) = H1 at s1 e1
  walk_at "u"
  refine g_cut (fun σ' H2 => ∃ (C1 : Addr) (ms : List Int) (mo : Nat), σ' = [some (.ref a), some (.int (atF ns 0)), none, some (.int (mo : Nat)), some (.ref C1), none, none] ∧ mo ≤ 24 ∧ Same H H2 ∧ H2 C1 = some (.lst (ms.map V.int)) ∧ ms.length ≤ 12) ?_ ?_
  · walk_at "u"
    refine ⟨a, ns, 1, rfl, s1.seq hS, ?_⟩
    walk_at "u"
    refine g_if (fun _ => ?_) (fun _ => ?_)
    · walk_at "u"
      rw [show ((8 : Int)) = ((8 : Nat) : Int) from rfl]
      refine ⟨a, _, rfl, s1.seq hS, fun C1 hC1 => ?_⟩
      obtain ⟨m1, em1⟩ := cutV_ints (ns := ns) (lo := some ((4 : Nat) : Int)) (hi := some ((8 : Nat) : Int))
      have l1 : m1.length ≤ 12 := by
        have := cutV_few (xs := ns.map V.int) (a := 4) (b := 8) (by decide)
        rw [em1, List.length_map] at this; omega
      rw [em1]
      walk_at "u"
      exact ⟨C1, m1, 24, rfl, by decide, s1.trans (Same.new hC1), upd_same, l1⟩
    · walk_at "u"
      exact ⟨C0, m0, 6, rfl, by decide, s1, e1, l0⟩
  rintro σ' H2 ⟨C1, ms, mo, rfl, hmo, s2, e2, l2⟩
  walk_at "v"
  refine ⟨a, ns, 3, rfl, s2.seq hS, ?_⟩
  walk_at "u"
  refine ⟨_, _, mo, rfl, by omega, fun l H3 hwl hll s3 => ?_⟩
  walk_at "u"
  refine ⟨by show 1 ≤ sizeLine; decide, fun D hD => ?_⟩
  have sD := s2.trans s3
  have e3 := s3 _ _ e2
  have nD : C1 ≠ D := ne_of_none e3 hD
  walk_at "u"
  refine g_inL (SqL.of (by rw [upd_ne nD]; exact e3)) (fun i σ' H' => ∃ (ws : List (List Nat)) (v : Option V), σ' = [some (.ref a), some (.int (atF ns 0)), none, some (.int (mo : Nat)), some (.ref C1), some (.ref D), v] ∧ ws.length = i + 1 ∧ AllW ws ∧ Same H H' ∧ H' D = some (.lst (wordsV ws)) ∧ H' C1 = some (.lst (ms.map V.int)))
    ⟨[l], none, rfl, rfl, AllW.nil.snoc hwl (by omega), sD.trans (Same.new hD), upd_same, by rw [upd_ne nD]; exact e3⟩ (fun i σ' H' _ ⟨_, _, _, _, _, _, _, e⟩ => SqL.of e) ?_ ?_
  · rintro i x σ' H4 hx ⟨ws, v, rfl, hlen, hw, s4, e4, ec⟩
    obtain ⟨n, rfl, _⟩ := ints_get hx
    have hi : i < ms.length := by have := (List.getElem?_eq_some_iff.mp hx).1; rw [List.length_map] at this; exact this
    have sL : SqL K H4 D (wordsV ws) := SqL.of e4
    have fin : ∀ (r : List Nat) H5, Wd r → r.length ≤ 24 → Same H4 H5 → ∃ (ws' : List (List Nat)) (v : Option V), [some (V.ref a), some (.int (atF ns 0)), none, some (.int (mo : Nat)), some (.ref C1), some (.ref D), some (.int n)] = [some (.ref a), some (.int (atF ns 0)), none, some (.int (mo : Nat)), some (.ref C1), some (.ref D), v] ∧ ws'.length = i + 1 + 1 ∧ AllW ws' ∧ Same H (upd H5 D (.lst (wordsV ws ++ [.str (mkS r)]))) ∧ upd H5 D (.lst (wordsV ws ++ [.str (mkS r)])) D = some (.lst (wordsV ws')) ∧ upd H5 D (.lst (wordsV ws ++ [.str (mkS r)])) C1 = some (.lst (ms.map V.int)) :=
      fun r H5 hr hl5 s5 => ⟨ws ++ [r], _, rfl, by rw [List.length_append, hlen]; rfl, hw.snoc hr hl5, Same.wr (s4.trans s5) (sD.free hD), by rw [upd_same, wordsV_snoc], by rw [upd_ne nD]; exact s5 _ _ ec⟩
    walk_at "u"
    refine g_if (fun _ => ?_) (fun _ => ?_)
    · walk_at "u"
      refine ⟨Or.inl ⟨rfl, _, sL⟩, ?_⟩
      walk_at "u"
      refine ⟨_, _, mo, rfl, by omega, fun r H5 hr hl5 s5 => ?_⟩
      walk_at "u"
      refine g_append (s5 _ _ e4) (by rw [wordsV_len]; omega) ?_
      walk_at "u"
      exact fin r H5 hr (by omega) s5
    · walk_at "u"
      refine ⟨Or.inl ⟨rfl, _, sL⟩, ?_⟩
      walk_at "u"
      rw [wordsV_len]
      have h0 : 0 ≤ n / 3 % (ws.length : Int) := Int.emod_nonneg _ (by omega)
      have h1 : n / 3 % (ws.length : Int) < ws.length := Int.emod_lt_of_pos _ (by omega)
      walk_at "u"
      obtain ⟨b, hb, eb⟩ := words_pick ws h0 h1
      refine g_ixL sL eb ?_
      walk_at "u"
      refine ⟨_, _, b, rfl, (hw b hb).1, (hw b hb).2, fun r H5 hr hl5 s5 => ?_⟩
      walk_at "u"
      refine g_append (s5 _ _ e4) (by rw [wordsV_len]; omega) ?_
      walk_at "u"
      exact fin r H5 hr hl5 s5
  · rintro σ' H4 ⟨ws, v, rfl, hlen, hw, s4, e4, ec⟩
    rw [List.length_map] at hlen
    walk_at "u"
    exact q D ws H4 s4 (sD.free hD) e4 (by omega) (by omega) hw
theorem d_law_asked (A : At K mg "_law_asked" s_law_asked) (bi : Bi mg) (d_law_at : Dd P w K mg base CX0 1 "_law_at" ["_law_script", "_law_k"] (spAt K)) (d_law_word : Dd P w K mg base CX0 2 "_law_word" ["_law_mode", "_law_cell", "_law_most"] (spWord)) (d_law_bent : Dd P w K mg base CX0 2 "_law_bent" ["_law_mode", "_law_word_here", "_law_cell"] (spBent)) : Dd P w K mg base CX0 3 "_law_asked" ["_law_script", "_law_words_here"] (spAsked K) := by
  have sc := sc_law_asked
  refine A.ok sc (fun _ _ _ _ _ _ us hl => match us, hl with | [_, _], _ => rfl) (fun vs H Q E h => ?_) (fun f cdv A outer s H vs Q E hr h => ?_)
  · obtain ⟨_, _, _, _, rfl, _⟩ := h; rfl
  have hu := hu_of hr
  obtain ⟨a, p, ns, ws, rfl, hS, e, h0, h1, hw, q⟩ := h
  refine ⟨_, (pss_cons (ps_set (i := 2) sc.nd rfl (Or.inl rfl) (pe_callD d_law_at (hr.mono (by decide)) rfl pass0 (pa_cons (pv 0) (pa_cons pe_int pa_nil))))
  (pss_cons (ps_if (pt_cmpR op_eq (pe_op op_mod (pv 2) pe_int) pe_int (nomark _)) (pss_one (ps_ret (pe_callD d_law_word (hr.mono (by decide)) rfl pass0 (pa_cons (pe_callD d_law_at (hr.mono (by decide)) rfl pass0 (pa_cons (pv 0) (pa_cons pe_int pa_nil))) (pa_cons (pe_op op_fdiv (pv 2) pe_int) (pa_cons pe_int pa_nil)))))) pss_nil)
  (pss_one (ps_ret (pe_callD d_law_bent (hr.mono (by decide)) rfl pass0 (pa_cons (pe_callD d_law_at (hr.mono (by decide)) rfl pass0 (pa_cons (pv 0) (pa_cons pe_int pa_nil))) (pa_cons (pe_ix ix_list (pv 1) (pe_op op_mod (pe_op op_fdiv (pv 2) pe_int) (pe_callB c_lenL (by rfl) bi.n_len (by decide +kernel) (pa_cons (pv 1) pa_nil))) (fun _ _ => rfl)) (pa_cons (pe_op op_fdiv (pv 2) pe_int) pa_nil)))))))), ?_⟩
  refine g_start (show L2.start _ _ = [some _, some _, none] from rfl) ?_
  have sL : SqL K H p (wordsV ws) := SqL.of e
  walk_at "u"
  refine ⟨a, ns, 2, rfl, hS, ?_⟩
  walk_at "u"
  refine g_if (fun _ => ?_) (fun _ => ?_)
  · walk_at "u"
    refine ⟨a, ns, 0, rfl, hS, ?_⟩
    walk_at "u"
    refine ⟨_, _, 7, rfl, by decide, fun l H1 hwl hll s => ?_⟩
    exact q l H1 hwl (by omega) s
  · walk_at "u"
    refine ⟨a, ns, 0, rfl, hS, ?_⟩
    walk_at "u"
    rw [wordsV_len]
    have g0 : 0 ≤ atF ns 2 / 4 % (ws.length : Int) := Int.emod_nonneg _ (by omega)
    have g1 : atF ns 2 / 4 % (ws.length : Int) < ws.length := Int.emod_lt_of_pos _ (by omega)
    walk_at "u"
    obtain ⟨b, hb, eb⟩ := words_pick ws g0 g1
    refine g_ixL sL eb ?_
    walk_at "u"
    exact ⟨_, _, b, rfl, (hw b hb).1, (hw b hb).2, fun l H1 hwl hll s => q l H1 hwl hll s⟩
theorem d_law_tree (A : At K mg "_law_tree" s_law_tree) (bi : Bi mg) {CN CT T : Addr} (d_Tree___init__ : Di P w K mg base CX0 3 "Tree" CT ["self"] (spTreeI CN CT)) (d_Tree_put : Dm P w K mg base CX0 4 CT "put" ["self", "word"] (spTW0 CN CT T (wPut0 CN CT))) : Dd P w K mg base CX0 5 "_law_tree" ["_law_words_here"] (spMakeTree CN CT T) := by
  have sc := sc_law_tree
  refine A.ok sc (fun _ _ _ _ _ _ us hl => match us, hl with | [_], _ => rfl) (fun vs H Q E h => ?_) (fun f cdv A outer s H vs Q E hr h => ?_)
  · obtain ⟨_, _, rfl, _⟩ := h; rfl
  have hu := hu_of hr
  obtain ⟨p, ws, rfl, e, hw, hl, hT, q⟩ := h
  refine ⟨_, (pss_cons (ps_set (i := 1) sc.nd rfl (Or.inl rfl) (pe_makeD0 d_Tree___init__ (hr.mono (by decide)) (by rfl) pass0))
  (pss_cons (ps_for PassesOwn.never rfl (pi_list (pv 0)) (pg_name (i := 2) sc.nd rfl (Or.inl rfl)) (pss_one (ps_expr (pe_methD d_Tree_put (pv 1) (hr.mono (by decide)) pass0 (pa_cons (pv 2) pa_nil)))))
  (pss_one (ps_ret (pv 1))))), ?_⟩
  refine g_start (show L2.start _ _ = [some _, none, none] from rfl) ?_
  walk_at "u"
  refine g_newTree fun t H1 F1 s1 tv1 n1 => ?_
  walk_at "u"
  refine g_inL (SqL.of (s1 _ _ e)) (fun i σ' H' => ∃ (W : List (List Nat)) (F : Addr → Prop) (v : Option V), σ' = [some (.ref p), some (.ref t), v] ∧ Same H H' ∧ TreeV CN CT H' t W F ∧ SameW W (ws.take i) ∧ ∀ y, F y → H y = none)
    ⟨[], F1, none, rfl, s1, tv1, SameW.refl, n1⟩ (fun i σ' H' _ ⟨_, _, _, _, s, _⟩ => SqL.of (s _ _ e)) ?_ ?_
  · rintro i x σ' H2 hx ⟨W, F, v, rfl, s2, tv, sw, nF⟩
    obtain ⟨l, hi, rfl⟩ := wordsV_get hx
    obtain ⟨hlw, hll⟩ := hw l (List.mem_of_getElem? hi)
    obtain ⟨L, dt, et, tr, hf⟩ := id tv.ex
    have few := same_len tv.nd sw
    rw [List.length_take] at few
    walk_at "u"
    refine ⟨t, dt, _, rfl, et, lk_not rfl, ?_⟩
    walk_at "u"
    refine ⟨t, l, W, F, rfl, hlw, hll, hT.same s2, tv, fun hin H3 s3 => ?_, fun hout => ⟨by omega, fun H3 F3 off tv3 nF3 => ?_⟩⟩
    · walk_at "u"
      refine ⟨W, F, _, rfl, s2.trans s3, tv.same s3, ?_, nF⟩
      rw [take_snoc_ hi]; exact same_in sw hin
    · walk_at "u"
      refine ⟨W ++ [l], F3, _, rfl, fun y u hy => off y u (s2 y u hy) (fun z => by rw [nF y z] at hy; cases hy), tv3, ?_, fun y hy => ?_⟩
      · rw [take_snoc_ hi]; exact mem_snoc_same sw
      · exact (nF3 y hy).elim (nF y) (fun z => s2.free z)
  · rintro σ' H2 ⟨W, F, v, rfl, s2, tv, sw, nF⟩
    rw [wordsV_len, List.take_length] at sw
    walk_at "u"
    exact q t W F H2 s2 tv sw (same_len tv.nd sw) nF
theorem d_law_step (A : At K mg "_law_step" s_law_step) (bi : Bi mg) (d_law_whole : Dd P w K mg base CX0 1 "_law_whole" ["_law_thing"] (spWhole)) : Dd P w K mg base CX0 2 "_law_step" ["_law_text", "_law_change"] (spStep) := by
  have sc := sc_law_step
  refine A.ok sc (fun _ _ _ _ _ _ us hl => match us, hl with | [_, _], _ => rfl) (fun vs H Q E h => ?_) (fun f cdv A outer s H vs Q E hr h => ?_)
  · obtain ⟨_, _, _, rfl, _⟩ := h; rfl
  have hu := hu_of hr
  obtain ⟨l, x, o, rfl, hl, hc, q⟩ := h
  refine ⟨_, (pss_cons (ps_if (PW.pt (pw_or (pt_not (pt_val (pe_callB call_isK (by rfl) bi.n_isinstance (by decide +kernel) (pa_cons (pv 1) (pa_cons (pe_bltn (v := .ty "tuple") (by rfl) bi.n_tuple (by decide +kernel) rfl) pa_nil))))) (pw_or (pt_cmpR op_lt (pe_callB c_lenL (by rfl) bi.n_len (by decide +kernel) (pa_cons (pv 1) pa_nil)) pe_int (nomark _)) (pw_or (pt_cmpR op_gt (pe_callB c_lenL (by rfl) bi.n_len (by decide +kernel) (pa_cons (pv 1) pa_nil)) pe_int (nomark _)) (pw_or1 (pt_not (pt_val (pe_callD d_law_whole (hr.mono (by decide)) rfl pass0 (pa_cons (pe_ix ix_tup (pv 1) pe_int (fun _ _ => rfl)) pa_nil))))))))) (pss_one (ps_ret pe_non)) pss_nil)
  (pss_cons (ps_set (i := 2) sc.nd rfl (Or.inl rfl) (pe_ix ix_tup (pv 1) pe_int (fun _ _ => rfl)))
  (pss_cons (ps_if (pt_cmpR op_eq (pe_callB c_lenL (by rfl) bi.n_len (by decide +kernel) (pa_cons (pv 1) pa_nil)) pe_int (nomark _)) (pss_cons (ps_if (PW.pt (pw_or (pt_cmpR (o_neK hu) (pe_ix ix_tup (pv 1) pe_int (fun _ _ => rfl)) pe_str (nomark _)) (pw_or1 (pt_not (pt_chain op_le op_lt pe_int (pv 2) (pe_callB c_lenS (by rfl) bi.n_len (by decide +kernel) (pa_cons (pv 0) pa_nil))))))) (pss_one (ps_ret pe_non)) pss_nil)
  (pss_one (ps_ret (pe_op o_addS (pe_slice sl_str (pv 0) po_none (po_some (pv 2))) (pe_slice sl_str (pv 0) (po_some (pe_op op_add (pv 2) pe_int)) po_none))))) pss_nil)
  (pss_cons (ps_set (i := 3) sc.nd rfl (Or.inl rfl) (pe_ix ix_tup (pv 1) pe_int (fun _ _ => rfl)))
  (pss_cons (ps_if (PW.pt (pw_or (pt_not (pt_val (pe_callB call_isK (by rfl) bi.n_isinstance (by decide +kernel) (pa_cons (pv 3) (pa_cons (pe_bltn (v := .ty "str") (by rfl) bi.n_str (by decide +kernel) rfl) pa_nil))))) (pw_or (pt_cmpR op_ne (pe_callB c_lenS (by rfl) bi.n_len (by decide +kernel) (pa_cons (pv 3) pa_nil)) pe_int (nomark _)) (pw_or1 (pt_cmpR o_notInS (pv 3) pe_str rfl))))) (pss_one (ps_ret pe_non)) pss_nil)
  (pss_cons (ps_if (PW.pt (pw_and (pt_cmpR (o_eqK hu) (pe_ix ix_tup (pv 1) pe_int (fun _ _ => rfl)) pe_str (nomark _)) (pw_and1 (pt_chain op_le op_le pe_int (pv 2) (pe_callB c_lenS (by rfl) bi.n_len (by decide +kernel) (pa_cons (pv 0) pa_nil)))))) (pss_one (ps_ret (pe_op o_addS (pe_op o_addS (pe_slice sl_str (pv 0) po_none (po_some (pv 2))) (pv 3)) (pe_slice sl_str (pv 0) (po_some (pv 2)) po_none)))) pss_nil)
  (pss_cons (ps_if (PW.pt (pw_and (pt_cmpR (o_eqK hu) (pe_ix ix_tup (pv 1) pe_int (fun _ _ => rfl)) pe_str (nomark _)) (pw_and (pt_chain op_le op_lt pe_int (pv 2) (pe_callB c_lenS (by rfl) bi.n_len (by decide +kernel) (pa_cons (pv 0) pa_nil))) (pw_and1 (pt_cmpR op_ne (pe_ix ix_str (pv 0) (pv 2) (fun _ _ => rfl)) (pv 3) (nomark _)))))) (pss_one (ps_ret (pe_op o_addS (pe_op o_addS (pe_slice sl_str (pv 0) po_none (po_some (pv 2))) (pv 3)) (pe_slice sl_str (pv 0) (po_some (pe_op op_add (pv 2) pe_int)) po_none)))) pss_nil)
  (pss_one (ps_ret pe_non))))))))), ?_⟩
  refine g_start (show L2.start _ _ = [some _, some _, none, none] from rfl) ?_
  cases hc with
  | @no x T k n =>
    have e : isK T "tuple" = false := by simp [isK, n]
    walk_at "v"
    exact q
  | @tup p xs e k =>
    have kp : Kn H (.ref p) "tuple" := .tup e
    have sT : SqT K H p xs := SqT.of e
    walk_at "v"
    rcases xs with _ | ⟨a, _ | ⟨b, _ | ⟨c, _ | ⟨d, r⟩⟩⟩⟩
    · walk_at "vi"
      walk_at "v"
      exact q
    · walk_at "vi"
      walk_at "v"
      exact q
    · obtain ⟨_, Ta, ka⟩ := k a (by simp)
      obtain ⟨_, Tb, kb⟩ := k b (by simp)
      walk_at "vi"
      walk_at "v"
      walk_at "vi"
      walk_at "v"
      refine ⟨_, _, rfl, kb, ?_⟩
      cases hb : isIntV b with
      | false =>
        walk_at "v"
        rw [stepR_two hb] at q
        exact q
      | true =>
        cases kb with
        | int i =>
          walk_at "v"
          walk_at "vi"
          walk_at "v"
          refine g_ifN (fun h => ?_) (fun h => ?_)
          · walk_at "v"
            rw [stepR_cutN (fun z => h z.1)] at q
            exact q
          · walk_at "v"
            refine g_if (fun h1 => ?_) (fun h1 => ?_)
            · walk_at "v"
              refine g_ifN (fun h2 => ?_) (fun h2 => ?_)
              · walk_at "v"
                rw [stepR_cutN (fun z => h2 z.2.2)] at q
                exact q
              · walk_at "v"
                rw [stepR_cut ⟨h, h1, h2⟩] at q
                have e1 : (i + 1).toNat = i.toNat + 1 := by omega
                rw [e1]
                exact q
            · walk_at "v"
              rw [stepR_cutN (fun z => h1 z.2.1)] at q
              exact q
        | _ => cases hb
    · obtain ⟨_, Ta, ka⟩ := k a (by simp)
      obtain ⟨_, Tb, kb⟩ := k b (by simp)
      obtain ⟨hz, Tc, kc⟩ := k c (by simp)
      walk_at "vi"
      walk_at "v"
      walk_at "vi"
      walk_at "v"
      refine ⟨_, _, rfl, kb, ?_⟩
      cases hb : isIntV b with
      | false =>
        walk_at "v"
        rw [stepR_tri hb] at q
        exact q
      | true =>
        cases kb with
        | int i =>
          walk_at "v"
          walk_at "vi"
          walk_at "v"
          by_cases hT : Tc = "str"
          · cases kc with
            | str z =>
              obtain ⟨z, rfl⟩ : ∃ y, z = mkS y := ⟨_, mkS_of z⟩
              have hz' : z.length ≤ 1000 := by rw [← mkS_len]; exact hz
              have e1 : isK "str" "str" = true := by decide
              rw [e1]
              walk_at "v"
              refine g_ifN (fun h1 => ?_) (fun h1 => ?_)
              · walk_at "v"
                rw [stepR_no (letOf_bad fun c hc => by rw [hc] at h1; exact absurd rfl h1)] at q
                exact q
              · obtain ⟨c, rfl⟩ : ∃ c, z = [c] := List.length_eq_one_iff.mp (by omega)
                walk_at "v"
                refine g_ifN (fun h2 => ?_) (fun h2 => ?_)
                · walk_at "v"
                  rw [alpha_mem] at h2
                  rw [stepR_no (letOf_bad fun d hd => by
                    have hd' : c = d := by injection hd
                    rw [← hd']; exact h2)] at q
                  exact q
                · rw [alpha_mem] at h2
                  have hy := letOf_one h2
                  have e2 : (i + 1).toNat = i.toNat + 1 ∨ i < 0 := by omega
                  by_cases hp : a = .str (mkS ("put" : Str).cps.toList) ∧ 0 ≤ i ∧ i ≤ l.length
                  · obtain ⟨rfl, h3, h4⟩ := id hp
                    rw [stepR_put hy hp] at q
                    walk_at "v"
                    refine g_if (fun _ => ?_) (fun z => absurd rfl z)
                    walk_at "v"
                    refine g_if (fun _ => ?_) (fun z => absurd h3 z)
                    walk_at "v"
                    refine g_if (fun _ => ?_) (fun z => absurd h4 z)
                    walk_at "v"
                    exact q
                  · by_cases ht : a = .str (mkS ("turn" : Str).cps.toList) ∧ 0 ≤ i ∧ i < l.length ∧ l[i.toNat]? ≠ some c
                    · obtain ⟨rfl, h3, h4, h5⟩ := id ht
                      rw [stepR_turn hy hp ht] at q
                      obtain ⟨d, hd⟩ : ∃ d, l[i.toNat]? = some d := ⟨_, List.getElem?_eq_getElem (by omega)⟩
                      have hd1 : atI l i = some d := at_ofN (by omega) hd
                      have hd2 : ¬ [d] = [c] := fun z => by
                        injection z with z
                        rw [hd, z] at h5
                        exact h5 rfl
                      have hn : ¬ V.str (mkS ("turn" : Str).cps.toList) = .str (mkS ("put" : Str).cps.toList) := by decide +kernel
                      walk_at "v"
                      refine g_if (fun z => absurd z hn) (fun _ => ?_)
                      walk_at "v"
                      refine g_if (fun _ => ?_) (fun z => absurd rfl z)
                      walk_at "v"
                      refine g_if (fun _ => ?_) (fun z => absurd h3 z)
                      walk_at "v"
                      refine g_if (fun _ => ?_) (fun z => absurd h4 z)
                      walk_at "v"
                      refine g_ixS (by omega) hd1 ?_
                      walk_at "v"
                      refine g_ifN (fun _ => ?_) (fun z => absurd z hd2)
                      walk_at "v"
                      rcases e2 with e2 | e2
                      · rw [e2]; exact q
                      · omega
                    · rw [stepR_else hy hp ht] at q
                      have q' : Q .non H := q
                      walk_at "dfs"
                      all_goals first
                        | (exfalso; apply hp; refine ⟨?_, ?_, ?_⟩ <;> assumption)
                        | skip
                      all_goals (have hi : i.toNat < l.length := by omega)
                      all_goals (refine g_ixS (by omega) (at_ofN (by omega) (List.getElem?_eq_getElem hi)) ?_)
                      all_goals walk_at "dfs"
                      all_goals (exfalso; apply ht; refine ⟨by assumption, by assumption, by assumption, fun z => ?_⟩)
                      all_goals (rename_i h9; apply h9; rw [List.getElem?_eq_getElem hi] at z; injection z with z; rw [z])
            | _ => exact absurd hT (by decide)
          · have en : isK Tc "str" = false := by simp [isK, hT]
            rw [en]
            walk_at "v"
            rw [stepR_no (letOf_kn kc hT)] at q
            exact q
        | _ => cases hb
    · walk_at "vi"
      walk_at "v"
      walk_at "vi"
      walk_at "v"
      rw [stepR_more] at q
      exact q
theorem d_law_led (A : At K mg "_law_led" s_law_led) (bi : Bi mg) (d_law_step : Dd P w K mg base CX0 2 "_law_step" ["_law_text", "_law_change"] (spStep)) : Dd P w K mg base CX0 3 "_law_led" ["_law_text", "_law_changes"] (spLawLed) := by
  have sc := sc_law_led
  refine A.ok sc (fun _ _ _ _ _ _ us hl => match us, hl with | [_, _], _ => rfl) (fun vs H Q E h => ?_) (fun f cdv A outer s H vs Q E hr h => ?_)
  · obtain ⟨_, _, _, _, rfl, _⟩ := h; rfl
  have hu := hu_of hr
  obtain ⟨l, p, xs, os, rfl, hl, hx, e, ho, hc, q⟩ := h
  refine ⟨_, (pss_cons (ps_if (pt_not (pt_val (pe_callB call_isK (by rfl) bi.n_isinstance (by decide +kernel) (pa_cons (pv 1) (pa_cons (pe_bltn (v := .ty "list") (by rfl) bi.n_list (by decide +kernel) rfl) pa_nil))))) (pss_one (ps_ret pe_non)) pss_nil)
  (pss_cons (ps_for PassesOwn.never rfl (pi_list (pv 1)) (pg_name (i := 2) sc.nd rfl (Or.inl rfl)) (pss_cons (ps_set (i := 0) sc.nd rfl (Or.inl rfl) (pe_callD d_law_step (hr.mono (by decide)) rfl pass0 (pa_cons (pv 0) (pa_cons (pv 2) pa_nil))))
  (pss_one (ps_if (pt_cmpR o_isN (pv 0) pe_non (nomark _)) (pss_one (ps_ret pe_non)) pss_nil))))
  (pss_one (ps_ret (pv 0))))), ?_⟩
  refine g_start (show L2.start _ _ = [some _, some _, none] from rfl) ?_
  have kp : Kn H (.ref p) "list" := .lst e
  walk_at "u"
  refine g_inL (SqL.of e) (fun i σ' H' => ∃ (z : List Nat) (v : Option V), σ' = [some (.str (mkS z)), some (.ref p), v] ∧ ledR l (os.take i) = some z ∧ H' = H) ⟨l, none, rfl, rfl, rfl⟩ (fun i σ' H' _ ⟨z, v, _, _, eH⟩ => by rw [eH]; exact SqL.of e) ?_ ?_
  · rintro i x σ' H' hi ⟨z, v, rfl, hz, rfl⟩
    obtain ⟨o, hoi⟩ : ∃ o, os[i]? = some o := ⟨os[i]'(by rw [← ho]; exact (List.getElem?_eq_some_iff.mp hi).1), List.getElem?_eq_getElem _⟩
    have hzl : z.length ≤ 400 := by have := ledR_len hz; rw [List.length_take] at this; omega
    walk_at "u"
    refine ⟨z, x, o, rfl, by omega, hc i x o hi hoi, ?_⟩
    walk_at "u"
    cases es : stepR z o with
    | none =>
      rw [ledR_stop hz hoi es] at q
      dsimp only [optV]
      refine g_if (fun _ => ?_) (fun w => absurd rfl w)
      walk_at "u"
      exact q
    | some z2 =>
      dsimp only [optV]
      refine g_if (fun w => by cases w) (fun _ => ?_)
      walk_at "u"
      exact ⟨z2, _, rfl, by rw [ledR_next hz hoi, es], rfl⟩
  · rintro σ' H' ⟨z, v, rfl, hz, rfl⟩
    rw [List.take_of_length_le (by omega)] at hz
    rw [hz] at q
    walk_at "u"
    exact q
theorem d_law_next (A : At K mg "_law_next" s_law_next) (bi : Bi mg) : Dd P w K mg base CX0 1 "_law_next" ["_law_row", "_law_letter_here", "_law_word_here"] (spNext K) := by
  have sc := sc_law_next
  refine A.ok sc (fun _ _ _ _ _ _ us hl => match us, hl with | [_, _, _], _ => rfl) (fun vs H Q E h => ?_) (fun f cdv A outer s H vs Q E hr h => ?_)
  · obtain ⟨_, _, _, _, rfl, _⟩ := h; rfl
  have hu := hu_of hr
  obtain ⟨a, p, b, c, rfl, hS, hb, q⟩ := h
  refine ⟨_, (pss_cons (ps_set (i := 3) sc.nd rfl (Or.inl rfl) (pe_lst (pa_cons (pe_op op_add (pe_ix ix_list (pv 0) pe_int (fun _ _ => rfl)) pe_int) pa_nil)))
  (pss_cons (ps_for PassesOwn.never rfl (pi_range1 (by rfl) bi.n_range (pa_cons (pe_callB c_lenS (by rfl) bi.n_len (by decide +kernel) (pa_cons (pv 2) pa_nil)) pa_nil)) (pg_name (i := 4) sc.nd rfl (Or.inl rfl)) (pss_cons (ps_set (i := 5) sc.nd rfl (Or.inl rfl) pe_int)
  (Evl.pss_cut (ps_if (pt_cmpR op_eq (pe_ix ix_str (pv 2) (pv 4) (fun _ _ => rfl)) (pv 1) (nomark _)) (pss_one (ps_set (i := 5) sc.nd rfl (Or.inl rfl) pe_int)) pss_nil)
  (pss_one (ps_expr (pe_bm PySem.F.plainAttrs_list PySem.F.slot_list_append PySem.F.type_list_append mt_append (pv 3) (pa_cons (pe_callB (c_min3 rfl) (by rfl) bi.n_min (by decide +kernel) (pa_cons (pe_op op_add (pe_ix ix_list (pv 0) (pv 4) (fun _ _ => rfl)) (pv 5)) (pa_cons (pe_op op_add (pe_ix ix_list (pv 0) (pe_op op_add (pv 4) pe_int) (fun _ _ => rfl)) pe_int) (pa_cons (pe_op op_add (pe_ix ix_list (pv 3) (pv 4) (fun _ _ => rfl)) pe_int) pa_nil)))) pa_nil)))))))
  (pss_one (ps_ret (pv 3))))), ?_⟩
  refine g_start (show L2.start _ _ = [some _, some _, some _, none, none, none] from rfl) ?_
  walk_at "v"
  refine g_ixL hS (at_ofN (by decide) (rowV_get (row_zero p b))) ?_
  walk_at "u"
  refine ⟨by show 1 ≤ sizeLine; decide, fun D hD => ?_⟩
  walk_at "u"
  refine g_rng (by omega) (by omega) (fun i σ' H' => ∃ v1 v2, σ' = [some (.ref a), some (.str (mkS [c])), some (.str (mkS b)), some (.ref D), v1, v2] ∧ Same H H' ∧ H' D = some (.lst (rowV ((Lv.row (p ++ [c]) b).take (i + 1))))) ⟨none, none, rfl, Same.new hD, by rw [row_first]; exact upd_same⟩ ?_ ?_
  · rintro i σ' H' hi ⟨v1, v2, rfl, s0, hD'⟩
    have hi2 : i < b.length := by omega
    obtain ⟨y, hy⟩ : ∃ y, b[i]? = some y := ⟨b[i], List.getElem?_eq_getElem hi2⟩
    walk_at "u"
    refine g_cut (fun σ3 H3 => σ3 = [some (.ref a), some (.str (mkS [c])), some (.str (mkS b)), some (.ref D), some (.int (i : Int)), some (.int ((if y = c then 0 else 1 : Nat)))] ∧ H3 = H') ?_ ?_
    · walk_at "u"
      refine g_ixS (by omega) (at_ofN (by omega) hy) ?_
      walk_at "u"
      refine g_if (fun h => ?_) (fun h => ?_)
      · have e : y = c := by injection h
        walk_at "u"
        exact ⟨by rw [if_pos e]; rfl, rfl⟩
      · have e : ¬ y = c := fun z => h (by rw [z])
        walk_at "u"
        exact ⟨by rw [if_neg e]; rfl, rfl⟩
    · rintro σ3 H3 ⟨rfl, rfl⟩
      walk_at "u"
      refine ⟨Or.inl ⟨rfl, _, SqL.of hD'⟩, ?_⟩
      walk_at "u"
      refine g_ixL (s0.seq hS) (at_ofN (by omega) (rowV_get (Lv.row_get (by omega)))) ?_
      walk_at "u"
      refine g_ixL (s0.seq hS) (at_ofN (by omega) (by rw [show ((i : Int) + 1).toNat = i + 1 from rfl]; exact rowV_get (Lv.row_get (by omega)))) ?_
      walk_at "u"
      refine g_ixL (SqL.of hD') (at_ofN (by omega) (rowV_get (by rw [List.getElem?_take_of_lt (by omega)]; exact Lv.row_get (by omega)))) ?_
      walk_at "u"
      refine g_min3 (Int.natCast_add _ _).symm (Int.natCast_add _ 1).symm (Int.natCast_add _ 1).symm ?_
      walk_at "u"
      refine g_append hD' (by rw [rowV_len, List.length_take]; omega) ?_
      walk_at "u"
      refine ⟨_, _, rfl, Same.wr s0 hD, ?_⟩
      rw [upd_same, row_step hy]
      simp [rowV]
  · rintro σ' H' ⟨v1, v2, rfl, s0, hD'⟩
    walk_at "u"
    refine q D H' s0 hD ?_
    rw [hD', List.take_of_length_le (by rw [Lv.row_len]; omega)]
theorem d_law_far (A : At K mg "_law_far" s_law_far) (bi : Bi mg) (d_law_next : Dd P w K mg base CX0 1 "_law_next" ["_law_row", "_law_letter_here", "_law_word_here"] (spNext K)) : Dd P w K mg base CX0 2 "_law_far" ["_law_one", "_law_other"] (spFar) := by
  have sc := sc_law_far
  refine A.ok sc (fun _ _ _ _ _ _ us hl => match us, hl with | [_, _], _ => rfl) (fun vs H Q E h => ?_) (fun f cdv A outer s H vs Q E hr h => ?_)
  · obtain ⟨_, _, rfl, _⟩ := h; rfl
  have hu := hu_of hr
  obtain ⟨l, r, rfl, hl, hr2, q⟩ := h
  refine ⟨_, (pss_cons (ps_set (i := 2) sc.nd rfl (Or.inl rfl) (pe_listRg rfl (by rfl) bi.n_list (prg_1 (by rfl) bi.n_range (pe_op op_add (pe_callB c_lenS (by rfl) bi.n_len (by decide +kernel) (pa_cons (pv 1) pa_nil)) pe_int))))
  (pss_cons (ps_for PassesOwn.never rfl (pi_str (pv 0)) (pg_name (i := 3) sc.nd rfl (Or.inl rfl)) (pss_one (ps_set (i := 2) sc.nd rfl (Or.inl rfl) (pe_callD d_law_next (hr.mono (by decide)) rfl pass0 (pa_cons (pv 2) (pa_cons (pv 3) (pa_cons (pv 1) pa_nil)))))))
  (pss_one (ps_ret (pe_ix ix_list (pv 2) (pe_un un_neg pe_int) (fun _ _ => rfl)))))), ?_⟩
  refine g_start (show L2.start _ _ = [some _, some _, none, none] from rfl) ?_
  walk_at "u"
  refine g_listRg ?_
  walk_at "u"
  refine ⟨RgOk.of_le (by omega) (by omega) (by omega) (by omega), fun D hD => ?_⟩
  rw [rg_row]
  walk_at "u"
  refine g_txt rfl (fun i σ' H' => ∃ D' v, σ' = [some (.str (mkS l)), some (.str (mkS r)), some (.ref D'), v] ∧ Same H H' ∧ H' D' = some (.lst (rowV (Lv.row (l.take i) r)))) ⟨D, none, rfl, Same.new hD, upd_same⟩ ?_ ?_
  · rintro i c σ' H' hc ⟨D', v, rfl, s0, hD'⟩
    walk_at "u"
    refine ⟨D', l.take i, r, c, rfl, SqL.of hD', by omega, fun D2 H2 s2 _ hD2 => ?_⟩
    walk_at "u"
    refine ⟨D2, _, rfl, s0.trans s2, ?_⟩
    rw [List.take_succ, hc]
    exact hD2
  · rintro σ' H' ⟨D', v, rfl, s0, hD'⟩
    rw [List.take_length, row_last] at hD'
    walk_at "u"
    refine g_ixL (SqL.of hD') (atI_last _ _) ?_
    exact q H' s0
theorem d_law_good (A : At K mg "_law_good" s_law_good) (bi : Bi mg) (d_law_far : Dd P w K mg base CX0 2 "_law_far" ["_law_one", "_law_other"] (spFar)) (d_law_led : Dd P w K mg base CX0 3 "_law_led" ["_law_text", "_law_changes"] (spLawLed)) : Dd P w K mg base CX0 4 "_law_good" ["_law_found", "_law_words_here", "_law_asked_here", "_law_most"] (spGood) := by
  have sc := sc_law_good
  refine A.ok sc (fun _ _ _ _ _ _ us hl => match us, hl with | [_, _, _, _], _ => rfl) (fun vs H Q E h => ?_) (fun f cdv A outer s H vs Q E hr h => ?_)
  · obtain ⟨_, _, _, _, _, _, _, _, _, rfl, _⟩ := h; rfl
  have hu := hu_of hr
  obtain ⟨p, k, xs, ws, l, m, H0, D0, us, rfl, ep, ek, en, nw, hw, few, hl, q⟩ := h
  refine ⟨_, (pss_cons (ps_set (i := 4) sc.nd rfl (Or.inl rfl) (pe_sortSetP rfl hr.units (by rfl) bi.n_sorted (by rfl) bi.n_set (pe_lc (own := [("_law_one", 5)]) (g := gName 5) (tt := tYes) (by rfl) sc.nd (pi_list (pv 1)) (blkOk_by (own := [("_law_one", 5)]) (N := n_law_good) (sc := defScope s_law_good) (by decide +kernel)) (fun _ _ _ _ _ => pg_name (i := 5) sc.nd rfl (Or.inl rfl)) (fun _ _ _ _ _ => pts_nil) (fun _ _ _ _ _ => (pe_tup (pa_cons (pe_callD d_law_far (hr.mono (by decide)) rfl pass0 (pa_cons (pv 2) (pa_cons (pv 5) pa_nil))) (pa_cons (pv 5) pa_nil)))))))
  (pss_cons (ps_setLc (i := 4) (own := [("_law_pair", 6)]) (g := gName 6) (by rfl) sc.nd rfl rfl (sw_true rfl rfl rfl (by decide +kernel)) (pi_list (pv 4)) (blkOk_by (own := [("_law_pair", 6)]) (N := n_law_good) (sc := defScope s_law_good) (by decide +kernel)) (fun _ _ _ _ _ => pg_name (i := 6) sc.nd rfl (Or.inl rfl)) (fun _ _ _ _ _ => pts_one (pt_cmpR op_le (pe_ix (r := rIxT K) ix_tup (pv 6) pe_int (fun _ _ => rfl)) (pv 3) (nomark _))) (fun _ _ _ _ _ => (pv 6)))
  (pss_cons (ps_if (pt_cmpR op_ne (pe_callB c_lenL (by rfl) bi.n_len (by decide +kernel) (pa_cons (pv 0) pa_nil)) (pe_callB c_lenL (by rfl) bi.n_len (by decide +kernel) (pa_cons (pv 4) pa_nil)) (nomark _)) (pss_one (ps_ret pe_bl)) pss_nil)
  (pss_cons (ps_for PassesOwn.never rfl (pi_zip (by rfl) bi.n_zip (pa_cons (pv 0) (pa_cons (pv 4) pa_nil))) (pg_tup rfl (pgs_cons (pg_name (i := 6) sc.nd rfl (Or.inl rfl)) (pgs_cons (pg_name (i := 7) sc.nd rfl (Or.inl rfl)) pgs_nil))) (pss_cons (ps_if (PW.pt (pw_or (pt_not (pt_val (pe_callB call_isK (by rfl) bi.n_isinstance (by decide +kernel) (pa_cons (pv 6) (pa_cons (pe_bltn (v := .ty "tuple") (by rfl) bi.n_tuple (by decide +kernel) rfl) pa_nil))))) (pw_or (pt_cmpR op_ne (pe_callB c_lenL (by rfl) bi.n_len (by decide +kernel) (pa_cons (pv 6) pa_nil)) pe_int (nomark _)) (pw_or1 (pt_cmpR op_ne (pe_ix ix_tup (pv 6) pe_int (fun _ _ => rfl)) (pe_ix ix_tup (pv 7) pe_int (fun _ _ => rfl)) (nomark _)))))) (pss_one (ps_ret pe_bl)) pss_nil)
  (pss_one (ps_if (PW.pt (pw_or (pt_cmpR op_ne (pe_callD d_law_led (hr.mono (by decide)) rfl pass0 (pa_cons (pv 2) (pa_cons (pe_ix ix_tup (pv 6) pe_int (fun _ _ => rfl)) pa_nil))) (pe_ix ix_tup (pv 7) pe_int (fun _ _ => rfl)) (nomark _)) (pw_or1 (pt_cmpR op_ne (pe_callB c_lenL (by rfl) bi.n_len (by decide +kernel) (pa_cons (pe_ix ix_tup (pv 6) pe_int (fun _ _ => rfl)) pa_nil)) (pe_ix ix_tup (pv 7) pe_int (fun _ _ => rfl)) (nomark _))))) (pss_one (ps_ret pe_bl)) pss_nil))))
  (pss_one (ps_ret pe_bl)))))), ?_⟩
  refine g_start (show L2.start _ _ = [some _, some _, some _, some _, none, none, none, none] from rfl) ?_
  have sW : SqL K H k (wordsV ws) := SqL.of ek
  walk_at "u"
  refine g_sortSetP ?_
  refine g_lc ?_
  walk_at "u"
  refine ⟨k, rfl, ⟨_, sW⟩, fun D hD => ?_⟩
  refine lc_it (walk_list (xs := wordsV ws)) (fun i H' => ∃ ks : List Pr, Same H H' ∧ H' D = some (.lst (ks.map fun p => V.ref p.1)) ∧ ks.length = i ∧ (∀ p ∈ ks, H' p.1 = some (.tup [.int p.2.1, .str (mkS p.2.2)])) ∧ ks.map (·.2) = (ws.take i).map (dueP l)) ⟨[], Same.new hD, upd_same, rfl, (fun p hp => nomatch hp), rfl⟩ (fun i H' _ ⟨_, s, _⟩ => s.seq sW) ?_ ?_
  · rintro i x H1 H2 hi ⟨ks, s1, eD, hlen, objs, eks⟩ ⟨rfl, hx⟩
    obtain ⟨w, hwi, rfl⟩ := wordsV_get hx
    obtain ⟨hww, hwl⟩ := hw w (List.mem_of_getElem? hwi)
    have hil : i < ws.length := (List.getElem?_eq_some_iff.mp hwi).1
    refine g_tgt rfl (g_yes ?_)
    walk_at "v"
    refine ⟨l, w, rfl, by omega, by omega, fun H3 s3 => ?_⟩
    walk_at "v"
    refine ⟨by show 2 ≤ sizeLine; decide, fun T1 hT1 => ?_⟩
    have s4 : Same H3 (upd H3 T1 (.tup [.int ((Lv.lev l w : Nat)), .str (mkS w)])) := Same.new hT1
    have e4 : upd H3 T1 (.tup [.int ((Lv.lev l w : Nat)), .str (mkS w)]) T1 = some (.tup [.int ((Lv.lev l w : Nat)), .str (mkS w)]) := upd_same
    generalize upd H3 T1 (.tup [.int ((Lv.lev l w : Nat)), .str (mkS w)]) = H4 at s4 e4
    have s24 := s3.trans s4
    have eD4 := s24 _ _ eD
    have nT : T1 ≠ D := fun z => by rw [z, eD4] at e4; cases e4
    refine ⟨_, eD4, by rw [List.length_map, hlen]; exact Nat.lt_of_lt_of_le (show i < 64 by omega) (by decide), ks ++ [(T1, dueP l w)], Same.wr (s1.trans s24) hD, by rw [upd_same, List.map_append]; rfl, by rw [List.length_append, hlen]; rfl, fun p hp => ?_, by rw [List.map_append, eks, take_snoc_ hwi, List.map_append]; rfl⟩
    rcases List.mem_append.mp hp with hp | hp
    · have := s24 _ _ (objs p hp)
      rw [upd_ne (fun z => by rw [z, eD4] at this; cases this)]
      exact this
    · rw [List.mem_singleton.mp hp, upd_ne nT]
      exact e4
  rintro H1 ⟨ks, s1, eD, hlen, objs, eks⟩
  rw [wordsV_len, List.take_length] at eks
  rw [wordsV_len] at hlen
  refine ⟨D, ks, rfl, SqL.of eD, objs, by omega, fun zs pn up sub mem hpn => ?_⟩
  rw [eks] at mem
  have s2 : Same H (upd H1 pn (.lst (zs.map fun p => V.ref p.1))) := s1.trans (Same.new hpn)
  have ez : upd H1 pn (.lst (zs.map fun p => V.ref p.1)) pn = some (.lst (zs.map fun p => V.ref p.1)) := upd_same
  have objz : ∀ q ∈ zs, upd H1 pn (.lst (zs.map fun p => V.ref p.1)) q.1 = some (.tup [.int q.2.1, .str (mkS q.2.2)]) := fun q hq => Same.new hpn _ _ (objs q (sub q hq))
  generalize upd H1 pn (.lst (zs.map fun p => V.ref p.1)) = H2 at s2 ez objz
  have key : ∀ q ∈ zs, q.2 = dueP l q.2.2 := fun q hq => due_key mem hq
  have lz : zs.length < 64 := by
    have h1 : (zs.map (·.2)).Nodup := List.pairwise_map.mpr (up.imp fun {q r} h z => by
      rw [z, ltK_iff] at h
      rcases h with h | h
      · omega
      · exact List.lt_irrefl _ h.2)
    have := h1.length_le_of_subset fun q hq => (mem q).mp hq
    rw [List.length_map, List.length_map] at this
    omega
  have eu : us = (within m zs).map (·.2.2) := nw.uniq (due_near (m := m) up mem) fun _ => Iff.rfl
  walk_at "u"
  refine g_lc ?_
  walk_at "u"
  refine ⟨pn, rfl, ⟨_, SqL.of ez⟩, fun D2 hD2 => ?_⟩
  refine lc_it (walk_list (xs := zs.map fun p => V.ref p.1)) (fun i H' => Same H2 H' ∧ H' D2 = some (.lst ((within m (zs.take i)).map fun p => V.ref p.1))) ⟨Same.new hD2, upd_same⟩ (fun i H' _ ⟨s, _⟩ => s.seq (SqL.of ez)) ?_ ?_
  · rintro i x H3 H4 hi ⟨s3, e3⟩ ⟨rfl, hx⟩
    rw [List.length_map] at hi
    have hq0 : zs[i]? = some zs[i] := List.getElem?_eq_getElem hi
    have hqm : zs[i] ∈ zs := List.getElem_mem hi
    generalize zs[i] = z0 at hq0 hqm
    rw [List.getElem?_map, hq0] at hx
    injection hx with hx
    subst hx
    have sT : SqT K H4 z0.1 [.int z0.2.1, .str (mkS z0.2.2)] := SqT.of (s3 _ _ (objz z0 hqm))
    have few2 : (within m (zs.take i)).length < 64 := by
      have := within_few (m := m) (zs := zs.take i)
      rw [List.length_take] at this
      omega
    refine g_tgt rfl ?_
    walk_at "u"
    refine g_if (fun h => ?_) (fun h => ?_)
    · walk_at "u"
      refine ⟨_, e3, by rw [List.length_map]; exact Nat.lt_of_lt_of_le few2 (by decide), Same.wr s3 hD2, ?_⟩
      rw [upd_same, take_snoc_ hq0, within_snoc, if_pos h, List.map_append]
      rfl
    · refine ⟨s3, ?_⟩
      rw [take_snoc_ hq0, within_snoc, if_neg h, List.append_nil]
      exact e3
  rintro H3 ⟨s3, e3⟩
  rw [List.length_map, List.take_length] at e3
  have s13 := s2.trans s3
  have sX : SqL K H3 p xs := SqL.of (s13 _ _ ep)
  have sD2 : SqL K H3 D2 ((within m zs).map fun p => V.ref p.1) := SqL.of e3
  have hlx : xs.length = ((within m zs).map fun p => V.ref p.1).length := by rw [en.len, eu, List.length_map, List.length_map]
  walk_at "u"
  refine g_ifN (fun h => absurd (by rw [hlx]) h) (fun _ => ?_)
  walk_at "u"
  refine g_iZip ?_
  walk_at "u"
  refine g_zip sX sD2 hlx (fun i σ' H' => ∃ v6 v7, σ' = [some (.ref p), some (.ref k), some (.str (mkS l)), some (.int (m : Nat)), some (.ref D2), none, v6, v7] ∧ Same H3 H') ⟨_, _, rfl, Same.refl _⟩ (fun i σ' H' _ ⟨_, _, _, s⟩ => ⟨s.seq sX, s.seq sD2⟩) ?_ ?_
  · rintro i x y σ' H9 p9 hx hy ⟨v6, v7, rfl, s9⟩ hp9
    have s10 := s9.trans (Same.new (o := .tup [x, y]) hp9)
    refine g_pair (SqT.of upd_same) ?_
    have hi : i < (within m zs).length := by have := (List.getElem?_eq_some_iff.mp hy).1; rw [List.length_map] at this; exact this
    have hq0 : (within m zs)[i]? = some (within m zs)[i] := List.getElem?_eq_getElem hi
    have hqm : (within m zs)[i] ∈ zs := (List.mem_filter.mp (List.getElem_mem hi)).1
    generalize (within m zs)[i] = z0 at hq0 hqm
    rw [List.getElem?_map, hq0] at hy
    injection hy with hy
    subst hy
    have hu0 : us[i]? = some z0.2.2 := by rw [eu, List.getElem?_map, hq0]; rfl
    have kz := key z0 hqm
    have eo := s3 _ _ (objz z0 hqm)
    obtain ⟨t0, n0, w0⟩ := z0
    injection kz with kz _
    dsimp only at kz hu0 eo hqm hq0 s10
    subst kz
    have hwu : w0 ∈ ws := ((nw.mem w0).mp (List.mem_of_getElem? hu0)).1
    obtain ⟨hww, hwl⟩ := hw w0 hwu
    obtain ⟨a, c, cs, os, rfl, ea, ec, hlen, hcg, hled, hos, _, _⟩ := (en.at_ i x w0 hx hu0).same (s13.trans s10)
    have eo10 := s10 _ _ eo
    dsimp only
    generalize upd H9 p9 (.tup [V.ref a, V.ref t0]) = H10 at s10 ea ec hcg eo10
    have kp : Kn H10 (.ref a) "tuple" := .tup ea
    have sT : SqT K H10 a [.str (mkS w0), .ref c] := SqT.of ea
    have sZ : SqT K H10 t0 [.int ((Lv.lev l w0 : Nat)), .str (mkS w0)] := SqT.of eo10
    have sC : SqL K H10 c cs := SqL.of ec
    have hmost := Lv.lev_most l w0
    walk_at "u"
    refine g_ifN (fun h => absurd rfl h) (fun _ => ?_)
    walk_at "u"
    refine g_ifN (fun h => absurd rfl h) (fun _ => ?_)
    walk_at "u"
    refine ⟨l, c, cs, os, rfl, by omega, by omega, ec, hlen, hcg, ?_⟩
    rw [hled]
    dsimp only [optV]
    walk_at "u"
    refine g_ifN (fun h => absurd rfl h) (fun _ => ?_)
    walk_at "u"
    refine g_ifN (fun h => absurd (by rw [hlen, hos]) h) (fun _ => ?_)
    walk_at "u"
    exact ⟨_, _, rfl, s10⟩
  · rintro σ' H9 ⟨v6, v7, rfl, s9⟩
    walk_at "u"
    exact q _ (s13.trans s9)
theorem d_law (A : At K mg "law" s_law) (bi : Bi mg) {CN CT T : Addr} (d_law_at : Dd P w K mg base CX0 1 "_law_at" ["_law_script", "_law_k"] (spAt K)) (d_law_words : Dd P w K mg base CX0 3 "_law_words" ["_law_script"] (spWords1 K)) (d_law_asked : Dd P w K mg base CX0 3 "_law_asked" ["_law_script", "_law_words_here"] (spAsked K)) (d_law_tree : Dd P w K mg base CX0 5 "_law_tree" ["_law_words_here"] (spMakeTree CN CT T)) (d_law_word : Dd P w K mg base CX0 2 "_law_word" ["_law_mode", "_law_cell", "_law_most"] (spWord)) (d_law_bent : Dd P w K mg base CX0 2 "_law_bent" ["_law_mode", "_law_word_here", "_law_cell"] (spBent)) (d_law_good : Dd P w K mg base CX0 4 "_law_good" ["_law_found", "_law_words_here", "_law_asked_here", "_law_most"] (spGood)) (d_near : Dd P w K mg base CX0 5 "near" ["tree", "word", "most"] (spNear0 CN CT T)) (d_Tree_take : Dm P w K mg base CX0 4 CT "take" ["self", "word"] (spTW0 CN CT T (fun t W F l H Q => wTake CN CT t W F l H Q E0))) (d_Tree_put : Dm P w K mg base CX0 4 CT "put" ["self", "word"] (spTW0 CN CT T (wPut0 CN CT))) (d_Tree_words : Dm P w K mg base CX0 26 CT "words" ["self"] (spWords CN CT)) : Dd P w K mg base CX0 27 "law" ["_law_script"] (spLawT K T) := by
  have sc := sc_law
  refine A.ok sc (fun _ _ _ _ _ _ us hl => match us, hl with | [_], _ => rfl) (fun vs H Q E h => ?_) (fun f cdv A outer s H vs Q E hr h => ?_)
  · obtain ⟨_, _, rfl, _⟩ := h; rfl
  have hu := hu_of hr
  obtain ⟨a, ns, rfl, hS, hn, hT, q⟩ := h
  refine ⟨_, (pss_cons (ps_set (i := 1) sc.nd rfl (Or.inl rfl) (pe_callD d_law_words (hr.mono (by decide)) rfl pass0 (pa_cons (pv 0) pa_nil)))
  (pss_cons (ps_set (i := 2) sc.nd rfl (Or.inl rfl) (pe_callD d_law_asked (hr.mono (by decide)) rfl pass0 (pa_cons (pv 0) (pa_cons (pv 1) pa_nil))))
  (pss_cons (ps_set (i := 3) sc.nd rfl (Or.inl rfl) (pe_op op_mod (pe_callD d_law_at (hr.mono (by decide)) rfl pass0 (pa_cons (pv 0) (pa_cons pe_int pa_nil))) pe_int))
  (pss_cons (ps_set (i := 4) sc.nd rfl (Or.inl rfl) (pe_callD d_law_tree (hr.mono (by decide)) rfl pass0 (pa_cons (pv 1) pa_nil)))
  (pss_cons (ps_for PassesOwn.never rfl (pi_range1 (by rfl) bi.n_range (pa_cons (pe_op op_mod (pe_callD d_law_at (hr.mono (by decide)) rfl pass0 (pa_cons (pv 0) (pa_cons pe_int pa_nil))) pe_int) pa_nil)) (pg_name (i := 5) sc.nd rfl (Or.inl rfl)) (pss_cons (ps_set (i := 6) sc.nd rfl (Or.inr rfl) (pe_ix ix_list (pe_op op_cat (pv 1) (pe_lst (pa_cons pe_str pa_nil))) (pe_op op_mod (pe_op op_fdiv (pe_callD d_law_at (hr.mono (by decide)) rfl pass0 (pa_cons (pv 0) (pa_cons pe_int pa_nil))) pe_int) (pe_op op_add (pe_callB c_lenL (by rfl) bi.n_len (by decide +kernel) (pa_cons (pv 1) pa_nil)) pe_int)) (fun _ _ => rfl)))
  (Evl.pss_cut (ps_expr (pe_methD d_Tree_take (pv 4) (hr.mono (by decide)) pass0 (pa_cons (pv 6) pa_nil)))
  (pss_one (ps_setLc (i := 1) (own := [("_law_one", 7)]) (g := gName 7) (by rfl) sc.nd rfl rfl (sw_true rfl rfl rfl (by decide +kernel)) (pi_list (pv 1)) (blkOk_by (own := [("_law_one", 7)]) (N := n_law) (sc := defScope s_law) (by decide +kernel)) (fun _ _ _ _ _ => pg_name (i := 7) sc.nd rfl (Or.inl rfl)) (fun _ _ _ _ _ => pts_one (pt_cmpR op_ne (pv 7) (pv 6) (nomark _))) (fun _ _ _ _ _ => (pv 7)))))))
  (pss_cons (ps_for PassesOwn.never rfl (pi_tup (pe_tup (pa_cons (pv 2) (pa_cons (pe_callD d_law_word (hr.mono (by decide)) rfl pass0 (pa_cons (pe_callD d_law_at (hr.mono (by decide)) rfl pass0 (pa_cons (pv 0) (pa_cons pe_int pa_nil))) (pa_cons (pe_callD d_law_at (hr.mono (by decide)) rfl pass0 (pa_cons (pv 0) (pa_cons pe_int pa_nil))) (pa_cons pe_int pa_nil)))) (pa_cons (pv 2) (pa_cons (pv 2) pa_nil)))))) (pg_name (i := 8) sc.nd rfl (Or.inl rfl)) (pss_cons (ps_set (i := 9) sc.nd rfl (Or.inl rfl) (pe_callD d_near (hr.mono (by decide)) rfl pass0 (pa_cons (pv 4) (pa_cons (pv 8) (pa_cons (pv 3) pa_nil)))))
  (pss_cons (ps_if (PW.pt (pw_or (pt_not (pt_val (pe_callB call_isK (by rfl) bi.n_isinstance (by decide +kernel) (pa_cons (pv 9) (pa_cons (pe_bltn (v := .ty "list") (by rfl) bi.n_list (by decide +kernel) rfl) pa_nil))))) (pw_or1 (pt_not (pt_val (pe_callD d_law_good (hr.mono (by decide)) rfl pass0 (pa_cons (pv 9) (pa_cons (pv 1) (pa_cons (pv 8) (pa_cons (pv 3) pa_nil)))))))))) (pss_one (ps_ret pe_bl)) pss_nil)
  (pss_cons (ps_for PassesOwn.never rfl (pi_list (pv 9)) (pg_name (i := 10) sc.nd rfl (Or.inl rfl)) (pss_one (ps_expr (pe_bm0 PySem.F.plainAttrs_list PySem.F.slot_list_clear PySem.F.type_list_clear mt_clear (pe_ix ix_tup (pv 10) pe_int (fun _ _ => rfl))))))
  (pss_cons (ps_expr (pe_bm0 PySem.F.plainAttrs_list PySem.F.slot_list_clear PySem.F.type_list_clear mt_clear (pv 9)))
  (pss_cons (ps_set (i := 11) sc.nd rfl (Or.inr rfl) (pe_callD d_law_bent (hr.mono (by decide)) rfl pass0 (pa_cons (pe_callD d_law_at (hr.mono (by decide)) rfl pass0 (pa_cons (pv 0) (pa_cons pe_int pa_nil))) (pa_cons (pv 8) (pa_cons (pe_callD d_law_at (hr.mono (by decide)) rfl pass0 (pa_cons (pv 0) (pa_cons pe_int pa_nil))) pa_nil)))))
  (pss_one (ps_if (pt_cmpR (r := rIn K false) op_in_seq (pv 11) (pv 1) (by rfl)) (Evl.pss_cut (ps_expr (pe_methD d_Tree_take (pv 4) (hr.mono (by decide)) pass0 (pa_cons (pv 11) pa_nil)))
  (pss_one (ps_setLc (i := 1) (own := [("_law_one", 7)]) (g := gName 7) (by rfl) sc.nd rfl rfl (sw_true rfl rfl rfl (by decide +kernel)) (pi_list (pv 1)) (blkOk_by (own := [("_law_one", 7)]) (N := n_law) (sc := defScope s_law) (by decide +kernel)) (fun _ _ _ _ _ => pg_name (i := 7) sc.nd rfl (Or.inl rfl)) (fun _ _ _ _ _ => pts_one (pt_cmpR op_ne (pv 7) (pv 11) (nomark _))) (fun _ _ _ _ _ => (pv 7))))) (Evl.pss_cut (ps_expr (pe_methD d_Tree_put (pv 4) (hr.mono (by decide)) pass0 (pa_cons (pv 11) pa_nil)))
  (pss_one (ps_set (i := 1) sc.nd rfl (Or.inl rfl) (pe_op op_cat (pv 1) (pe_lst (pa_cons (pv 11) pa_nil))))))))))))))
  (pss_one (ps_ret (pe_cmpR (op_eqD hr.units) (pe_methD0 d_Tree_words (pv 4) (hr.mono (by decide)) pass0) (pe_sortSetW rfl (by rfl) bi.n_sorted (by rfl) bi.n_set (pv 1)) (nomark _)))))))))), ?_⟩
  refine g_start (show L2.start _ _ = [some _, none, none, none, none, none, none, none, none, none, none, none] from rfl) ?_
  walk_at "u"
  refine ⟨a, ns, rfl, hS, fun p ws H1 s1 hp e1 w0 w1 hw => ?_⟩
  walk_at "u"
  refine ⟨a, p, ns, ws, rfl, s1.seq hS, e1, w0, by omega, hw, fun l H2 hwl hll s12 => ?_⟩
  have s2 := s1.trans s12
  have e2 := s12 _ _ e1
  walk_at "u"
  refine ⟨a, ns, 16, rfl, s2.seq hS, ?_⟩
  have b0 : 0 ≤ atF ns 16 % 25 := Int.emod_nonneg _ (by omega)
  have b1 : atF ns 16 % 25 < 25 := Int.emod_lt_of_pos _ (by omega)
  obtain ⟨m, em⟩ : ∃ m : Nat, atF ns 16 % 25 = (m : Nat) := ⟨_, (Int.toNat_of_nonneg b0).symm⟩
  rw [em] at b1
  have hm : m ≤ 24 := by omega
  walk_at "u"
  rw [em]
  refine ⟨p, ws, rfl, e2, hw, by omega, hT.same s2, fun t W F H3 s23 tv sw lW nF0 => ?_⟩
  have s3 := s2.trans s23
  have nF : ∀ y, F y → H y = none := fun y hy => s2.free (nF0 y hy)
  walk_at "u"
  refine ⟨a, ns, 17, rfl, s3.seq hS, ?_⟩
  have r0 : 0 ≤ atF ns 17 % 4 := Int.emod_nonneg _ (by omega)
  have r1 : atF ns 17 % 4 < 4 := Int.emod_lt_of_pos _ (by omega)
  walk_at "u"
  refine g_rng (by omega) (by omega) (fun i σ' H' => ∃ (p : Addr) (ws W : List (List Nat)) (v5 v6 : Option V), σ' = [some (.ref a), some (.ref p), some (.str (mkS l)), some (.int (m : Nat)), some (.ref t), v5, v6, none, none, none, none, none] ∧ Same H H' ∧ TreeV CN CT H' t W F ∧ SameW W ws ∧ H' p = some (.lst (wordsV ws)) ∧ AllW ws ∧ ws.length ≤ 40)
    ⟨p, ws, W, _, _, rfl, s3, tv, sw, s23 _ _ e2, hw, by omega⟩ ?_ ?_
  · clear sw hw e1 e2 lW tv w0 w1
    rintro i σ' H7 hi ⟨p, ws, W, v5, v6, rfl, s7, tv7, sw, ep7, hw, lw⟩
    have sL : SqL K H7 p (wordsV ws) := SqL.of ep7
    walk_at "v"
    refine ⟨by show 1 ≤ sizeLine; decide, fun P1 hP1 => ?_⟩
    have s8 : Same H7 (upd H7 P1 (.lst [.str (mkS (Str.ofString "").cps.toList)])) := Same.new hP1
    refine g_cat (s8 _ _ ep7) upd_same (by rw [wordsV_len]; show ws.length + 1 ≤ 100000; omega) fun P2 hP2 => ?_
    have s9 := s8.trans (Same.new (o := .lst (wordsV ws ++ [.str (mkS (Str.ofString "").cps.toList)])) hP2)
    have eP2 : upd (upd H7 P1 (.lst [.str (mkS (Str.ofString "").cps.toList)])) P2 (.lst (wordsV ws ++ [.str (mkS (Str.ofString "").cps.toList)])) P2 = some (.lst (wordsV (ws ++ [[]]))) := by rw [upd_same, wordsV_snoc, show (Str.ofString "").cps.toList = [] from by decide +kernel]
    generalize upd (upd H7 P1 (.lst [.str (mkS (Str.ofString "").cps.toList)])) P2 (.lst (wordsV ws ++ [.str (mkS (Str.ofString "").cps.toList)])) = H8 at s9 eP2
    have sL8 : SqL K H8 p (wordsV ws) := SqL.of (s9 _ _ ep7)
    clear s8
    have s8 := s7.trans s9
    walk_at "u"
    refine ⟨a, ns, 17, rfl, s8.seq hS, ?_⟩
    walk_at "u"
    rw [wordsV_len]
    walk_at "u"
    have g0 : 0 ≤ atF ns 17 / 4 % ((ws.length : Int) + 1) := Int.emod_nonneg _ (by omega)
    have g1 : atF ns 17 / 4 % ((ws.length : Int) + 1) < (ws.length : Int) + 1 := Int.emod_lt_of_pos _ (by omega)
    have hw' : AllW (ws ++ [[]]) := hw.snoc Wd.nil (Nat.zero_le _)
    obtain ⟨gone, hgm, eg⟩ := words_pick (ws ++ [[]]) g0 (by rw [List.length_append]; show _ < ((ws.length + 1 : Nat) : Int); omega)
    refine g_ixL (SqL.of eP2) eg ?_
    obtain ⟨hgw, hgl⟩ := hw' gone hgm
    have ep8 := s9 _ _ ep7
    have tv8 := tv7.same s9
    walk_at "u"
    obtain ⟨L, dt, et, tr, hf⟩ := id tv8.ex
    refine g_cut (fun σ' H' => ∃ (W' : List (List Nat)), σ' = [some (.ref a), some (.ref p), some (.str (mkS l)), some (.int (m : Nat)), some (.ref t), some (.int (i : Nat)), some (.str (mkS gone)), none, none, none, none, none] ∧ Same H H' ∧ TreeV CN CT H' t W' F ∧ SameW W' (less ws gone) ∧ H' p = some (.lst (wordsV ws))) ?_ ?_
    · walk_at "u"
      refine ⟨t, dt, _, rfl, et, lk_not rfl, ?_⟩
      walk_at "u"
      refine ⟨t, gone, W, F, rfl, hgw, hgl, hT.same s8, tv8, fun hout H9 s9' => ?_, fun hin H9 off tv9 => ?_⟩
      · walk_at "u"
        exact ⟨W, rfl, s8.trans s9', tv8.same s9', same_out sw hout, s9' _ _ ep8⟩
      · have kp := off.keep tv8.kind
        walk_at "u"
        exact ⟨less W gone, rfl, off.from s8 nF, tv9, same_less sw, kp _ _ ep8 trivial⟩
    rintro σ' H9 ⟨W', rfl, s9', tv9, sw9, ep9⟩
    walk_at "u"
    refine g_lc ?_
    walk_at "u"
    refine ⟨p, rfl, ⟨_, SqL.of ep9⟩, fun D hD => lc_it (walk_list (xs := wordsV ws)) (fun i H' => Same H9 H' ∧ H' D = some (.lst (wordsV (less (ws.take i) gone)))) ⟨Same.new hD, upd_same⟩ (fun i H' _ ⟨s, _⟩ => s.seq (SqL.of ep9)) ?_ ?_⟩
    · rintro k x H10 H11 hk ⟨s10, eD⟩ ⟨rfl, hx⟩
      obtain ⟨w, hwk, rfl⟩ := wordsV_get hx
      have few : (less (ws.take k) gone).length ≤ 100000 := by have := less_few (ws := ws.take k) (g := gone); rw [List.length_take] at this; omega
      refine g_tgt rfl ?_
      walk_at "u"
      refine g_ifN (fun h => ?_) (fun h => ?_)
      · walk_at "u"
        refine ⟨_, eD, by rw [wordsV_len]; exact Nat.lt_of_le_of_lt few (by decide), Same.wr s10 hD, ?_⟩
        rw [upd_same, take_snoc_ hwk, less_snoc, if_pos h, wordsV_snoc]
      · refine ⟨s10, ?_⟩
        rw [take_snoc_ hwk, less_snoc, if_neg (fun z => z h), List.append_nil]
        exact eD
    rintro H10 ⟨s10, eD⟩
    rw [wordsV_len, List.take_length] at eD
    have few := less_few (ws := ws) (g := gone)
    walk_at "u"
    exact ⟨D, less ws gone, W', _, _, rfl, s9'.trans s10, tv9.same s10, sw9, eD, hw.less, by omega⟩
  clear sw hw e1 e2 lW tv w0 w1
  rintro σ' H4 ⟨p, ws, W, v5, v6, rfl, s4, tv4, sw, ep4, hw, lw⟩
  walk_at "v"
  refine ⟨a, ns, 0, rfl, s4.seq hS, ?_⟩
  walk_at "u"
  refine ⟨a, ns, 18, rfl, s4.seq hS, ?_⟩
  walk_at "u"
  refine ⟨_, _, 7, rfl, by decide, fun l2 H5 hwl2 hll2 s45 => ?_⟩
  walk_at "v"
  refine ⟨by show 4 ≤ sizeLine; decide, fun T0 hT0 => ?_⟩
  have s5 := s4.trans s45
  have s56 : Same H5 (upd H5 T0 (.tup [.str (mkS l), .str (mkS l2), .str (mkS l), .str (mkS l)])) := Same.new hT0
  have eT6 : upd H5 T0 (.tup [.str (mkS l), .str (mkS l2), .str (mkS l), .str (mkS l)]) T0 = some (.tup [.str (mkS l), .str (mkS l2), .str (mkS l), .str (mkS l)]) := upd_same
  generalize upd H5 T0 (.tup [.str (mkS l), .str (mkS l2), .str (mkS l), .str (mkS l)]) = H6 at s56 eT6
  have s46 := s45.trans s56
  walk_at "u"
  refine g_inT (SqT.of eT6) (fun i σ' H' => ∃ (p : Addr) (ws W : List (List Nat)) (F : Addr → Prop) (v8 v9 v10 v11 : Option V), σ' = [some (.ref a), some (.ref p), some (.str (mkS l)), some (.int (m : Nat)), some (.ref t), v5, v6, none, v8, v9, v10, v11] ∧ Same H H' ∧ H' T0 = some (.tup [.str (mkS l), .str (mkS l2), .str (mkS l), .str (mkS l)]) ∧
    TreeV CN CT H' t W F ∧ SameW W ws ∧ (∀ y, F y → H y = none) ∧ H' p = some (.lst (wordsV ws)) ∧ AllW ws ∧ ws.length ≤ 40 + i)
    ⟨p, ws, W, F, _, _, _, _, rfl, s4.trans s46, eT6, tv4.same s46, sw, nF, s46 _ _ ep4, hw, by omega⟩ (fun i σ' H' _ ⟨_, _, _, _, _, _, _, _, _, _, e, _⟩ => SqT.of e) ?_ ?_
  · clear sw hw lw ep4 tv4 nF
    rintro i x σ' H7 hx ⟨p, ws, W, F, v8, v9, v10, v11, rfl, s7, eT7, tv7, sw, nF, ep7, hw, lw⟩
    have hi4 : i < 4 := (List.getElem?_eq_some_iff.mp hx).1
    obtain ⟨lq, rfl, hwq, hlq⟩ : ∃ lq : List Nat, x = .str (mkS lq) ∧ Wd lq ∧ lq.length ≤ 24 := by
      match i, hi4, hx with
      | 0, _, h => injection h with h; exact ⟨l, h.symm, hwl, hll⟩
      | 1, _, h => injection h with h; exact ⟨l2, h.symm, hwl2, by omega⟩
      | 2, _, h => injection h with h; exact ⟨l, h.symm, hwl, hll⟩
      | 3, _, h => injection h with h; exact ⟨l, h.symm, hwl, hll⟩
    have lWs := same_len tv7.nd sw
    walk_at "u"
    refine ⟨t, lq, m, W, F, rfl, hwq, hlq, hm, hT.same s7, tv7, by omega, fun us xs D H8 nw s78 hD eD en => ?_⟩
    have kp : Kn H8 (.ref D) "list" := .lst eD
    have s8 := s7.trans s78
    walk_at "u"
    refine ⟨D, p, xs, ws, lq, m, H7, D, us, rfl, eD, s78 _ _ ep7, en, nw.sameW sw, hw, by omega, hlq, fun H9 s89 => ?_⟩
    have s79 := s78.trans s89
    have hold := (hold_of en).same s89
    have eD9 := s89 _ _ eD
    walk_at "u"
    refine g_inL (SqL.of eD9) (fun j σ' H' => ∃ (v10 : Option V), σ' = [some (.ref a), some (.ref p), some (.str (mkS l)), some (.int (m : Nat)), some (.ref t), v5, v6, none, some (.str (mkS lq)), some (.ref D), v10, v11] ∧ Same H7 H' ∧ H' D = some (.lst xs) ∧ Hold H7 D H' xs) ⟨_, rfl, s79, eD9, hold⟩ (fun j σ' H' _ ⟨_, _, _, e, _⟩ => SqL.of e) ?_ ?_
    · rintro j x σ' H10 hx ⟨v10, rfl, s10, eD10, ho⟩
      obtain ⟨b, w, c, cs, rfl, eb, ec, hc, ncD⟩ := ho x (List.mem_of_getElem? hx)
      have sT : SqT K H10 b [.str (mkS w), .ref c] := SqT.of eb
      walk_at "u"
      refine g_BM0 ?_
      walk_at "u"
      refine ⟨Or.inl ⟨rfl, _, SqL.of ec⟩, ?_⟩
      refine g_clear ec ?_
      walk_at "u"
      exact ⟨_, rfl, Same.wr s10 hc, by rw [upd_ne ncD.symm]; exact eD10, ho.clear ec⟩
    rintro σ' H10 ⟨v10, rfl, s10, eD10, _⟩
    walk_at "u"
    refine g_BM0 ?_
    walk_at "u"
    refine ⟨Or.inl ⟨rfl, _, SqL.of eD10⟩, ?_⟩
    refine g_clear eD10 ?_
    have s711 : Same H7 (upd H10 D (.lst [])) := Same.wr s10 hD
    generalize upd H10 D (.lst []) = H11 at s711
    have s11 := s7.trans s711
    walk_at "u"
    refine ⟨a, ns, 0, rfl, s11.seq hS, ?_⟩
    walk_at "u"
    refine ⟨a, ns, 19, rfl, s11.seq hS, ?_⟩
    walk_at "u"
    refine ⟨_, _, lq, rfl, hwq, hlq, fun nw1 H12 hgw hgl s1112 => ?_⟩
    have s712 := s711.trans s1112
    clear s8
    have s8 := s7.trans s712
    have tv8 := tv7.same s712
    have ep8 := s712 _ _ ep7
    have eT8 := s712 _ _ eT7
    walk_at "u"
    refine g_inW (SqL.of ep8) ?_
    walk_at "u"
    refine g_if (fun hin0 => ?_) (fun hout0 => ?_)
    · obtain ⟨L, dt, et, tr, hf⟩ := id tv8.ex
      refine g_cut (fun σ' H' => ∃ (W' : List (List Nat)), σ' = [some (.ref a), some (.ref p), some (.str (mkS l)), some (.int (m : Nat)), some (.ref t), v5, v6, none, some (.str (mkS lq)), some (.ref D), v10, some (.str (mkS nw1))] ∧ Same H H' ∧ H' T0 = some (.tup [.str (mkS l), .str (mkS l2), .str (mkS l), .str (mkS l)]) ∧ TreeV CN CT H' t W' F ∧ SameW W' (less ws nw1) ∧ H' p = some (.lst (wordsV ws))) ?_ ?_
      · walk_at "u"
        refine ⟨t, dt, _, rfl, et, lk_not rfl, ?_⟩
        walk_at "u"
        refine ⟨t, nw1, W, F, rfl, hgw, hgl, hT.same s8, tv8, fun hout H9 s9' => ?_, fun hin H9 off tv9 => ?_⟩
        · walk_at "u"
          exact ⟨W, rfl, s8.trans s9', s9' _ _ eT8, tv8.same s9', same_out sw hout, s9' _ _ ep8⟩
        · have kp := off.keep tv8.kind
          walk_at "u"
          exact ⟨less W nw1, rfl, off.from s8 nF, kp _ _ eT8 trivial, tv9, same_less sw, kp _ _ ep8 trivial⟩
      rintro σ' H9 ⟨W', rfl, s9', eT9, tv9, sw9, ep9⟩
      walk_at "u"
      refine g_lc ?_
      walk_at "u"
      refine ⟨p, rfl, ⟨_, SqL.of ep9⟩, fun D5 hD5 => lc_it (walk_list (xs := wordsV ws)) (fun i H' => Same H9 H' ∧ H' D5 = some (.lst (wordsV (less (ws.take i) nw1)))) ⟨Same.new hD5, upd_same⟩ (fun i H' _ ⟨s, _⟩ => s.seq (SqL.of ep9)) ?_ ?_⟩
      · rintro k x H10 H11 hk ⟨s10, eD⟩ ⟨rfl, hx⟩
        obtain ⟨w, hwk, rfl⟩ := wordsV_get hx
        have few : (less (ws.take k) nw1).length ≤ 100000 := by have := less_few (ws := ws.take k) (g := nw1); rw [List.length_take] at this; omega
        refine g_tgt rfl ?_
        walk_at "u"
        refine g_ifN (fun h => ?_) (fun h => ?_)
        · walk_at "u"
          refine ⟨_, eD, by rw [wordsV_len]; exact Nat.lt_of_le_of_lt few (by decide), Same.wr s10 hD5, ?_⟩
          rw [upd_same, take_snoc_ hwk, less_snoc, if_pos h, wordsV_snoc]
        · refine ⟨s10, ?_⟩
          rw [take_snoc_ hwk, less_snoc, if_neg (fun z => z h), List.append_nil]
          exact eD
      rintro H10 ⟨s10, eD⟩
      rw [wordsV_len, List.take_length] at eD
      have few := less_few (ws := ws) (g := nw1)
      walk_at "u"
      exact ⟨D5, less ws nw1, W', F, _, _, _, _, rfl, s9'.trans s10, s10 _ _ eT9, tv9.same s10, sw9, nF, eD, hw.less, by omega⟩
    · obtain ⟨L, dt, et, tr, hf⟩ := id tv8.ex
      refine g_cut (fun σ' H' => ∃ (W' : List (List Nat)) (F' : Addr → Prop), σ' = [some (.ref a), some (.ref p), some (.str (mkS l)), some (.int (m : Nat)), some (.ref t), v5, v6, none, some (.str (mkS lq)), some (.ref D), v10, some (.str (mkS nw1))] ∧ Same H H' ∧ H' T0 = some (.tup [.str (mkS l), .str (mkS l2), .str (mkS l), .str (mkS l)]) ∧ TreeV CN CT H' t W' F' ∧ SameW W' (ws ++ [nw1]) ∧ (∀ y, F' y → H y = none) ∧ H' p = some (.lst (wordsV ws))) ?_ ?_
      · walk_at "u"
        refine ⟨t, dt, _, rfl, et, lk_not rfl, ?_⟩
        walk_at "u"
        refine ⟨t, nw1, W, F, rfl, hgw, hgl, hT.same s8, tv8, fun hin H13 s13 => absurd ((sw nw1).mp hin) hout0, fun hout => ⟨by omega, fun H13 F' off tv13 nF' => ?_⟩⟩
        have kp := off.keep tv8.kind
        walk_at "u"
        exact ⟨W ++ [nw1], F', rfl, off.from s8 nF, kp _ _ eT8 trivial, tv13, mem_snoc_same sw, fun y hy => (nF' y hy).elim (nF y) fun z => s8.free z, kp _ _ ep8 trivial⟩
      rintro σ' H13 ⟨W', F', rfl, s13, eT13, tv13, sw13, nF', ep13⟩
      walk_at "v"
      refine ⟨by show 1 ≤ sizeLine; decide, fun P3 hP3 => ?_⟩
      have s14 : Same H13 (upd H13 P3 (.lst [.str (mkS nw1)])) := Same.new hP3
      refine g_cat (s14 _ _ ep13) upd_same (by rw [wordsV_len]; show ws.length + 1 ≤ 100000; omega) fun P4 hP4 => ?_
      have s15 := s14.trans (Same.new (o := .lst (wordsV ws ++ [.str (mkS nw1)])) hP4)
      walk_at "u"
      exact ⟨P4, ws ++ [nw1], W', F', _, _, _, _, rfl, s13.trans s15, s15 _ _ eT13, tv13.same s15, sw13, nF', by rw [upd_same, wordsV_snoc], hw.snoc hgw hgl, by rw [List.length_append]; show ws.length + 1 ≤ _; omega⟩
  clear sw hw lw ep4 tv4 nF
  rintro σ' H7 ⟨p, ws, W, F, v8, v9, v10, v11, rfl, s7, eT7, tv7, sw, nF, ep7, hw, lw⟩
  have lw : ws.length ≤ 44 := lw
  have lWs := same_len tv7.nd sw
  obtain ⟨L, dt, et, tr, hf⟩ := id tv7.ex
  walk_at "u"
  refine ⟨t, dt, _, rfl, et, lk_not rfl, ?_⟩
  walk_at "u"
  refine ⟨t, W, F, rfl, tv7, by omega, fun ys D H8 beg s78 hD eD => ?_⟩
  walk_at "u"
  refine g_sortSetW ?_
  walk_at "u"
  refine ⟨p, ws, rfl, SqL.of (s78 _ _ ep7), by omega, fun zs D2 up mem hD2 => ?_⟩
  have ez : ys = zs := up_eq beg.up up fun w => (beg.mem w).trans ⟨fun h => (mem w).mpr ((sw w).mp h.1), fun h => ⟨(sw w).mpr ((mem w).mp h), List.nil_prefix⟩⟩
  subst ez
  have s89 : Same H8 (upd H8 D2 (.lst (wordsV ys))) := Same.new hD2
  refine eqD_same (SqL.of (s89 _ _ eD)) (SqL.of upd_same) (dat_words fun w h => (hw w ((mem w).mp h)).1) ?_
  exact q _ (hT.same ((s7.trans s78).trans s89))
end
section
def fnL : List He.DefD := [dOf "_wall" s_wall, dOf "is_letter" s_is_letter, dOf "is_word" s_is_word, dOf "check_word" s_check_word, dOf "first_row" s_first_row, dOf "next_row" s_next_row, dOf "table" s_table, dOf "way" s_way, dOf "near" s_near, dOf "_looked_at" s_looked_at, dOf "_check_most" s_check_most, dOf "_path" s_path, dOf "_prune" s_prune, dOf "_words_from" s_words_from, dOf "_law_at" s_law_at, dOf "_law_whole" s_law_whole, dOf "_law_letter" s_law_letter, dOf "_law_word" s_law_word, dOf "_law_bent" s_law_bent, dOf "_law_words" s_law_words, dOf "_law_asked" s_law_asked, dOf "_law_tree" s_law_tree, dOf "_law_step" s_law_step, dOf "_law_led" s_law_led, dOf "_law_next" s_law_next, dOf "_law_far" s_law_far, dOf "_law_good" s_law_good, dOf "law" s_law, dOfM "Node" "__init__" "Node.__init__" s_Node___init__, dOfM "Tree" "__init__" "Tree.__init__" s_Tree___init__, dOfM "Tree" "has" "Tree.has" s_Tree_has, dOfM "Tree" "put" "Tree.put" s_Tree_put, dOfM "Tree" "take" "Tree.take" s_Tree_take, dOfM "Tree" "words" "Tree.words" s_Tree_words, dOfM "Tree" "top" "Tree.top" s_Tree_top]
def faL : List He.Fa := [.glo "_wall", .glo "is_letter", .glo "is_word", .glo "check_word", .glo "first_row", .glo "next_row", .glo "table", .glo "way", .glo "near", .glo "_looked_at", .glo "_check_most", .glo "_path", .glo "_prune", .glo "_words_from", .glo "_law_at", .glo "_law_whole", .glo "_law_letter", .glo "_law_word", .glo "_law_bent", .glo "_law_words", .glo "_law_asked", .glo "_law_tree", .glo "_law_step", .glo "_law_led", .glo "_law_next", .glo "_law_far", .glo "_law_good", .glo "law", .glo "NearError", .glo "BadWord", .glo "BadMost", .glo "Full", .glo "Node", .glo "Tree", .free "len", .free "range", .free "isinstance", .free "int", .free "bool", .free "str", .free "min", .free "list", .free "tuple", .free "all", .free "enumerate", .free "sorted", .free "set", .free "zip", .free "reversed", .str "LETTERS" "abcdefghijklmnopqrstuvwxyz", .int "MOST_LETTERS" 24, .int "MOST_WORDS" 400, .exc "BadWord", .exc "BadMost", .exc "Full", .mkr "Node", .mkr "Tree", .meth "Tree" "has", .meth "Tree" "put", .meth "Tree" "take", .meth "Tree" "words", .meth "Tree" "top", .cls "Node", .noat "Node" "below", .noat "Node" "kept", .cls "Tree", .noat "Tree" "_top", .noat "Tree" "_many"]
def tfL : List He.Defn := [("is_word", none)]
def exL (K : PySem.W.Frag) : Bool := true
abbrev R : PySem.W.OpenRow := PySem.W.OpenLaw.row PySem.Challenge.rw_nearword_k11_whole_near_by_rows
abbrev hkL : PySem.W.Hook := hookT 6 faL fnL tfL exL
def obL (s : PySem.W.SharedT) : He.AlD := obsTG 6 faL fnL tfL exL (HandSHeadRun.getT s)
theorem obL_eq (s : PySem.W.SharedT) : obL s = hkL.obs s.abs := obsTG_eq (HandSHeadRun.getT_eq s)
abbrev stepsL : Nat := 6000
abbrev lvlL : Nat := 27
abbrev looseL : List Str := "_wall" :: "NearError" :: "BadWord" :: "BadMost" :: "Full" :: "is_letter" :: "is_word" :: "check_word" :: "first_row" :: "next_row" :: "table" :: "way" :: "near" :: "_looked_at" :: "_check_most" :: "Node" :: "Tree" :: "_path" :: "_prune" :: "_words_from" :: "_law_at" :: "_law_whole" :: "_law_letter" :: "_law_word" :: "_law_bent" :: "_law_words" :: "_law_asked" :: "_law_tree" :: "_law_step" :: "_law_led" :: "_law_next" :: "_law_far" :: "_law_good" :: "LETTERS" :: "MOST_LETTERS" :: "MOST_WORDS" :: []
set_option maxHeartbeats 0 in
theorem runL (w : World) : HandSHeadRun.RunEq R (PySem.W.view R.prog [42]) hkL obL 6000 ("_wall" :: "NearError" :: "BadWord" :: "BadMost" :: "Full" :: "is_letter" :: "is_word" :: "check_word" :: "first_row" :: "next_row" :: "table" :: "way" :: "near" :: "_looked_at" :: "_check_most" :: "Node" :: "Tree" :: "_path" :: "_prune" :: "_words_from" :: "_law_at" :: "_law_whole" :: "_law_letter" :: "_law_word" :: "_law_bent" :: "_law_words" :: "_law_asked" :: "_law_tree" :: "_law_step" :: "_law_led" :: "_law_next" :: "_law_far" :: "_law_good" :: "LETTERS" :: "MOST_LETTERS" :: "MOST_WORDS" :: []) w := by
  intro os
  kernel_rfl
theorem factsL {P : Program} {w : World} {K : PySem.W.Frag} {h : Heap} {mg : Str → Option Value} {f : Addr} (X : K.In h) (G : h.Ns mainGlobals mg) (hfa : mg ("law" : Str) = some (.ref f)) (c : He.SaysD faL fnL K) (e : exL K = true) (hd : PySem.W.codeHdIn K (He.cT K ("is_word", none)).1 (He.cT K ("is_word", none)).2 = true) :
    ∃ fd : FuncData, (∀ (s : Shared) (v : Value), BindsTo s fd ⟨[v], []⟩ [("_law_script", v)]) ∧ ∀ base : Heap, K.In base → base.Ns mainGlobals mg → GxR.TabB base mg (He.cT K ("is_word", none)).1 (He.cT K ("is_word", none)).2 → FnOk P w K mg base CX0 27 f fd ["_law_script"] (spTab (spLawT K (He.cT K ("is_word", none)).2) (He.cT K ("is_word", none)).2) := by
  have A_wall : At K mg "_wall" s_wall := at_of_says X G c 0 0 rfl rfl
  have A_is_letter : At K mg "is_letter" s_is_letter := at_of_says X G c 1 1 rfl rfl
  have A_is_word : At K mg "is_word" s_is_word := at_of_says X G c 2 2 rfl rfl
  have A_check_word : At K mg "check_word" s_check_word := at_of_says X G c 3 3 rfl rfl
  have A_first_row : At K mg "first_row" s_first_row := at_of_says X G c 4 4 rfl rfl
  have A_next_row : At K mg "next_row" s_next_row := at_of_says X G c 5 5 rfl rfl
  have A_table : At K mg "table" s_table := at_of_says X G c 6 6 rfl rfl
  have A_way : At K mg "way" s_way := at_of_says X G c 7 7 rfl rfl
  have A_near : At K mg "near" s_near := at_of_says X G c 8 8 rfl rfl
  have A_looked_at : At K mg "_looked_at" s_looked_at := at_of_says X G c 9 9 rfl rfl
  have A_check_most : At K mg "_check_most" s_check_most := at_of_says X G c 10 10 rfl rfl
  have A_path : At K mg "_path" s_path := at_of_says X G c 11 11 rfl rfl
  have A_prune : At K mg "_prune" s_prune := at_of_says X G c 12 12 rfl rfl
  have A_words_from : At K mg "_words_from" s_words_from := at_of_says X G c 13 13 rfl rfl
  have A_law_at : At K mg "_law_at" s_law_at := at_of_says X G c 14 14 rfl rfl
  have A_law_whole : At K mg "_law_whole" s_law_whole := at_of_says X G c 15 15 rfl rfl
  have A_law_letter : At K mg "_law_letter" s_law_letter := at_of_says X G c 16 16 rfl rfl
  have A_law_word : At K mg "_law_word" s_law_word := at_of_says X G c 17 17 rfl rfl
  have A_law_bent : At K mg "_law_bent" s_law_bent := at_of_says X G c 18 18 rfl rfl
  have A_law_words : At K mg "_law_words" s_law_words := at_of_says X G c 19 19 rfl rfl
  have A_law_asked : At K mg "_law_asked" s_law_asked := at_of_says X G c 20 20 rfl rfl
  have A_law_tree : At K mg "_law_tree" s_law_tree := at_of_says X G c 21 21 rfl rfl
  have A_law_step : At K mg "_law_step" s_law_step := at_of_says X G c 22 22 rfl rfl
  have A_law_led : At K mg "_law_led" s_law_led := at_of_says X G c 23 23 rfl rfl
  have A_law_next : At K mg "_law_next" s_law_next := at_of_says X G c 24 24 rfl rfl
  have A_law_far : At K mg "_law_far" s_law_far := at_of_says X G c 25 25 rfl rfl
  have A_law_good : At K mg "_law_good" s_law_good := at_of_says X G c 26 26 rfl rfl
  have A_law : At K mg "law" s_law := at_of_says X G c 27 27 rfl rfl
  have A_Node___init__ : AtI K mg "Node" (He.ga K "Node") "Node.__init__" s_Node___init__ := ati_of_says X G c 28 55 32 rfl rfl rfl
  have A_Tree___init__ : AtI K mg "Tree" (He.ga K "Tree") "Tree.__init__" s_Tree___init__ := ati_of_says X G c 29 56 33 rfl rfl rfl
  have A_Tree_has : AtM K (He.ga K "Tree") "has" "Tree.has" s_Tree_has := atm_of_says X G c 30 57 rfl rfl
  have A_Tree_put : AtM K (He.ga K "Tree") "put" "Tree.put" s_Tree_put := atm_of_says X G c 31 58 rfl rfl
  have A_Tree_take : AtM K (He.ga K "Tree") "take" "Tree.take" s_Tree_take := atm_of_says X G c 32 59 rfl rfl
  have A_Tree_words : AtM K (He.ga K "Tree") "words" "Tree.words" s_Tree_words := atm_of_says X G c 33 60 rfl rfl
  have A_Tree_top : AtM K (He.ga K "Tree") "top" "Tree.top" s_Tree_top := atm_of_says X G c 34 61 rfl rfl
  have nc : NodeC K (He.ga K "Node") := ⟨He.cls_ok (c.fact 62 (f := .cls "Node") rfl), He.noat_ok (c.fact 63 (f := .noat "Node" "below") rfl), He.noat_ok (c.fact 64 (f := .noat "Node" "kept") rfl)⟩
  have tc : TreeC K (He.ga K "Tree") := ⟨He.cls_ok (c.fact 65 (f := .cls "Tree") rfl), He.noat_ok (c.fact 66 (f := .noat "Tree" "_top") rfl), He.noat_ok (c.fact 67 (f := .noat "Tree" "_many") rfl)⟩
  have ca : CodeAt K mg "is_word" (He.cT K ("is_word", none)).1 := codeAt_says X G c 2 2 rfl rfl
  have z_len : mg "len" = none := He.free_ok X G (c.fact 34 (f := .free "len") rfl)
  have z_range : mg "range" = none := He.free_ok X G (c.fact 35 (f := .free "range") rfl)
  have z_isinstance : mg "isinstance" = none := He.free_ok X G (c.fact 36 (f := .free "isinstance") rfl)
  have z_int : mg "int" = none := He.free_ok X G (c.fact 37 (f := .free "int") rfl)
  have z_bool : mg "bool" = none := He.free_ok X G (c.fact 38 (f := .free "bool") rfl)
  have z_str : mg "str" = none := He.free_ok X G (c.fact 39 (f := .free "str") rfl)
  have z_min : mg "min" = none := He.free_ok X G (c.fact 40 (f := .free "min") rfl)
  have z_list : mg "list" = none := He.free_ok X G (c.fact 41 (f := .free "list") rfl)
  have z_tuple : mg "tuple" = none := He.free_ok X G (c.fact 42 (f := .free "tuple") rfl)
  have z_all : mg "all" = none := He.free_ok X G (c.fact 43 (f := .free "all") rfl)
  have z_enumerate : mg "enumerate" = none := He.free_ok X G (c.fact 44 (f := .free "enumerate") rfl)
  have z_sorted : mg "sorted" = none := He.free_ok X G (c.fact 45 (f := .free "sorted") rfl)
  have z_set : mg "set" = none := He.free_ok X G (c.fact 46 (f := .free "set") rfl)
  have z_zip : mg "zip" = none := He.free_ok X G (c.fact 47 (f := .free "zip") rfl)
  have z_reversed : mg "reversed" = none := He.free_ok X G (c.fact 48 (f := .free "reversed") rfl)
  have g_NearError : mg "NearError" = some (.ref (He.ga K "NearError")) := He.glo_ok X G (c.fact 28 (f := .glo "NearError") rfl)
  have g_BadWord : mg "BadWord" = some (.ref (He.ga K "BadWord")) := He.glo_ok X G (c.fact 29 (f := .glo "BadWord") rfl)
  have g_BadMost : mg "BadMost" = some (.ref (He.ga K "BadMost")) := He.glo_ok X G (c.fact 30 (f := .glo "BadMost") rfl)
  have g_Full : mg "Full" = some (.ref (He.ga K "Full")) := He.glo_ok X G (c.fact 31 (f := .glo "Full") rfl)
  have g_Node : mg "Node" = some (.ref (He.ga K "Node")) := He.glo_ok X G (c.fact 32 (f := .glo "Node") rfl)
  have g_Tree : mg "Tree" = some (.ref (He.ga K "Tree")) := He.glo_ok X G (c.fact 33 (f := .glo "Tree") rfl)
  obtain ⟨tL, cL⟩ := He.str_ok X G (c.fact 49 (f := .str "LETTERS" "abcdefghijklmnopqrstuvwxyz") rfl)
  have bi : Bi mg := ⟨z_len, z_range, z_isinstance, z_int, z_bool, z_str, z_min, z_list, z_tuple, z_all, z_enumerate, z_sorted, z_set, z_zip, z_reversed, ⟨tL, by rw [cL, alpha_str]⟩, He.int_ok X G (c.fact 50 (f := .int "MOST_LETTERS" 24) rfl), He.int_ok X G (c.fact 51 (f := .int "MOST_WORDS" 400) rfl)⟩
  have xW : Xc K mg "BadWord" (He.ga K "BadWord") := xc_of X G c 52 29 rfl rfl
  have xM : Xc K mg "BadMost" (He.ga K "BadMost") := xc_of X G c 53 30 rfl rfl
  have xF : Xc K mg "Full" (He.ga K "Full") := xc_of X G c 54 31 rfl rfl
  obtain ⟨f0, fd, hm, F⟩ := A_law.ex
  have ef : f0 = f := by rw [hm] at hfa; injection hfa with z; injection z
  subst ef
  refine ⟨fd, fun s v => F.bindsA (ps := ["_law_script"]) (fun _ _ _ _ _ _ us hl => match us, hl with | [_], _ => rfl) s [v] rfl, fun base kb gb tb => ?_⟩
  have d_is_word := d_is_word (P := P) (w := w) (base := base) A_is_word bi ca tb (fun M => lr_is_letter A_is_letter bi M)
  have d_check_word := d_check_word (P := P) (w := w) (base := base) A_check_word bi xW d_is_word
  have d_first_row := d_first_row (P := P) (w := w) (base := base) A_first_row bi
  have d_next_row := d_next_row (P := P) (w := w) (base := base) A_next_row bi
  have d_table := d_table (P := P) (w := w) (base := base) A_table bi xW d_check_word d_first_row d_next_row
  have d_way := d_way (P := P) (w := w) (base := base) A_way bi d_table
  have d_Node___init__ := d_Node___init__ (P := P) (w := w) (base := base) A_Node___init__ bi nc
  have d_Tree___init__ := d_Tree___init__ (P := P) (w := w) (base := base) A_Tree___init__ bi tc d_Node___init__
  have d_path := d_path (P := P) (w := w) (base := base) A_path bi nc
  have d_Tree_has := d_Tree_has (P := P) (w := w) (base := base) A_Tree_has bi nc tc d_check_word d_path
  have d_Tree_put := d_Tree_put (P := P) (w := w) (base := base) A_Tree_put bi nc tc xF d_Tree_has d_Node___init__
  have d_prune := d_prune (P := P) (w := w) (base := base) A_prune bi nc
  have d_Tree_take := d_Tree_take (P := P) (w := w) (base := base) A_Tree_take bi nc tc d_Tree_has d_path d_prune
  have d_words_from := d_words_from (P := P) (w := w) (base := base) A_words_from bi nc
  have d_Tree_words := d_Tree_words (P := P) (w := w) (base := base) A_Tree_words bi nc tc d_words_from
  have d_Tree_top := d_Tree_top (P := P) (w := w) (base := base) A_Tree_top bi nc tc
  have d_check_most := d_check_most (P := P) (w := w) (base := base) A_check_most bi xM
  have d_looked_at := d_looked_at (P := P) (w := w) (base := base) A_looked_at bi nc tc d_check_word d_check_most d_Tree_top d_first_row d_next_row
  have d_way := d_way.noX (sp' := spWay (He.cT K ("is_word", none)).2) (fun vs H Q E h => let ⟨l, r, e, hl, hr, h1, h2, hT, q⟩ := h; spTwoW_quiet l r e hl hr h1 h2 hT q)
  have d_near := d_near (P := P) (w := w) (base := base) A_near bi d_looked_at d_way
  have d_Tree_put := d_Tree_put.noX (sp' := spTW0 (He.ga K "Node") (He.ga K "Tree") (He.cT K ("is_word", none)).2 (wPut0 (He.ga K "Node") (He.ga K "Tree"))) (fun vs H Q E h => put_quiet h)
  have d_Tree_take := d_Tree_take.noX (sp' := spTW0 (He.ga K "Node") (He.ga K "Tree") (He.cT K ("is_word", none)).2 (fun t W F l H Q => wTake (He.ga K "Node") (He.ga K "Tree") t W F l H Q E0)) (fun vs H Q E h => take_quiet h)
  have d_Tree_has := d_Tree_has.noX (sp' := spTW0 (He.ga K "Node") (He.ga K "Tree") (He.cT K ("is_word", none)).2 (fun t W F l H Q => wHas t W F l H Q E0)) (fun vs H Q E h => has_quiet h)
  have d_near := d_near.noX (sp' := spNear0 (He.ga K "Node") (He.ga K "Tree") (He.cT K ("is_word", none)).2) (fun vs H Q E h => near_quiet h)
  have d_law_at := d_law_at (P := P) (w := w) (base := base) A_law_at bi
  have d_law_letter := d_law_letter (P := P) (w := w) (base := base) A_law_letter bi
  have d_law_word := d_law_word (P := P) (w := w) (base := base) A_law_word bi d_law_letter
  have d_law_whole := d_law_whole (P := P) (w := w) (base := base) A_law_whole bi
  have d_law_bent := d_law_bent (P := P) (w := w) (base := base) A_law_bent bi d_law_letter
  have d_law_words := d_law_words (P := P) (w := w) (base := base) A_law_words bi d_law_at d_law_word d_law_bent
  have d_law_asked := d_law_asked (P := P) (w := w) (base := base) A_law_asked bi d_law_at d_law_word d_law_bent
  have d_law_tree := d_law_tree (P := P) (w := w) (base := base) A_law_tree bi d_Tree___init__ d_Tree_put
  have d_law_step := d_law_step (P := P) (w := w) (base := base) A_law_step bi d_law_whole
  have d_law_led := d_law_led (P := P) (w := w) (base := base) A_law_led bi d_law_step
  have d_law_next := d_law_next (P := P) (w := w) (base := base) A_law_next bi
  have d_law_far := d_law_far (P := P) (w := w) (base := base) A_law_far bi d_law_next
  have d_law_good := d_law_good (P := P) (w := w) (base := base) A_law_good bi d_law_far d_law_led
  exact retab ((d_law (P := P) (w := w) (base := base) A_law bi d_law_at d_law_words d_law_asked d_law_tree d_law_word d_law_bent d_law_good d_near d_Tree_take d_Tree_put d_Tree_words).at hm (fn_there F))
end
end My
open PySem PySem.W PySem.Calls PyProof.Rows
set_option maxRecDepth 100000 in
set_option maxHeartbeats 0 in
theorem PySem.Challenge.cw_nearword_k11_whole_near_by_rows_holds : PySem.Challenge.rw_nearword_k11_whole_near_by_rows.Holds := by
  w_on; o_law
  refine HandSHeadRun.head_any (r := OpenLaw.row PySem.Challenge.rw_nearword_k11_whole_near_by_rows) (q := view (OpenLaw.row PySem.Challenge.rw_nearword_k11_whole_near_by_rows).prog [42]) (H := My.hkL) (ob := My.obL) (M := My.stepsL) (loose := My.looseL) (d := HandSHeadRun.topDef (OpenLaw.row PySem.Challenge.rw_nearword_k11_whole_near_by_rows).prog 42) (kwd := []) My.obL_eq
    (by kernel_rfl) (fun s => by kernel_rfl) My.runL (by kernel_rfl) (by kernel_rfl) (by kernel_rfl) (by rfl) (by first | assumption | decide +kernel) (by decide +kernel) ⟨rfl, rfl, rfl, rfl, rfl, by decide +kernel⟩ ?hw ?hc
  case hw => w_witness2
  case hc =>
    refine LamX.walk_ofTsE (l := PySem.Challenge.rw_nearword_k11_whole_near_by_rows) (n := 63) (k := My.lvlL) (x := "_law_script") (CX := fun _ => L2.CX0) rfl (by decide) (by kernel_rfl) ⟨rfl, by decide, by decide⟩ ?F (fun _ _ _ _ _ z => z)
    intro w mg fa h Y G hmg0
    obtain ⟨K, KX, c, e, t⟩ := Y
    have hmg : mg ("law" : PySem.Str) = some (.ref fa) := by
      have e : (HandSHeadRun.topDef (OpenLaw.row PySem.Challenge.rw_nearword_k11_whole_near_by_rows).prog 42).name = ("law" : PySem.Str) := by kernel_rfl
      rw [← e]
      exact hmg0
    have tw := t ("is_word", none) (List.mem_cons_self ..)
    obtain ⟨fd, hb, hF⟩ := My.factsL (P := (PySem.Challenge.rw_nearword_k11_whole_near_by_rows).prog) (w := w) KX G hmg c e tw.hd
    exact ⟨K, KX, N0.lawAtT tw KX hb hF⟩
