import PyProof.Rows.All
import Wide.All
import OpenK.AllK
import Wide.FinOn
import Open.SpecLaws
import KE.OsHead
import KE.OsGo
import HandS.ForSpec
import HandS.Comp
import HandS.Dict
import HandS.Iter
import HandS.Walk
import HandS.Text
import PyFlatLaws
import PySem.Challenge.RW_tentries_s01_answers
set_option maxRecDepth 100000
set_option linter.all false
/-! The mathematics of tentries alone: what each call comes to by the specification, in the program's own order of work. -/
namespace Ten
open Ks191Neutral (S)
abbrev nInt := Ks191Neutral.ints
abbrev P : Nat := Ks191.P
/-- what a call comes to: what it tells, how many things were asked, these, the object behind it -/
structure R where
  told : List Int
  n : Nat
  asked : List Int
  st : S
def R.all (r : R) : List Int := r.told ++ (r.n : Int) :: r.asked
def nm (n : Nat) : Nat := 1000003 * n + 12345
def pd (y : Nat) : List Nat := (List.range 64).map fun i => (y / 256 ^ (i % 8) + i) % 256
def mk (y : Nat) : Nat := (6364136223846793005 * y + 1442695040888963407) % 18446744073709551616
def ps (y : Nat) : Nat := (2862933555777941757 * y + 3037000493) % 18446744073709551616
def xr (a b : List Nat) : List Nat := List.zipWith (fun x y => x ^^^ y) a b
def mName (s : S) (n : Nat) : R := if 9999 < n then ⟨[-22], 0, [], s⟩ else ⟨[0, nm n], 1, [1, n], s⟩
def mSeal (s : S) (y : Nat) (sec : List Nat) : R := if P ≤ y then ⟨[-22], 0, [], s⟩ else ⟨[0], 2, [2, y, 3, y], (⟨xr sec (pd y), mk y⟩, s.2)⟩
def mOpen (s : S) (y : Nat) : R := if P ≤ y then ⟨[-22], 0, [], s⟩ else if mk y ≠ s.1.mark then ⟨[-13], 1, [3, y], s⟩ else
  ⟨0 :: (ps y : Int) :: nInt (xr s.1.sealed_ (pd y)), 3, [3, y, 2, y, 4, y], s⟩
def mNew (s : S) (x : Nat) (row : List Nat) : R := if s.2.fit = false then ⟨[-71], 0, [], s⟩ else if P ≤ x then ⟨[-22], 0, [], s⟩ else if s.2.state = 1 then ⟨[-1], 0, [], s⟩ else
  ⟨[0, Ks191.comes x row], row.length + 1, row.map (fun _ => 5) ++ [4, (Ks191.comes x row : Int)], (s.1, ⟨row, ps (Ks191.comes x row), 0, 1⟩)⟩
def mTry (s : S) (x : Nat) : R := if s.2.fit = false then ⟨[-71], 0, [], s⟩ else if P ≤ x then ⟨[-22], 0, [], s⟩ else if s.2.state = 0 then ⟨[-2], 0, [], s⟩ else if 10 ≤ s.2.tries then ⟨[-28], 0, [], s⟩ else
  ⟨[((10 - s.2.tries - 1 : Nat) : Int), Ks191.comes x s.2.row], 0, [], (s.1, { s.2 with tries := s.2.tries + 1 })⟩
def mFree (s : S) (m : Nat) : R := if s.2.fit = false then ⟨[-71], 0, [], s⟩ else if s.2.state = 0 then ⟨[-2], 0, [], s⟩ else if 10 ≤ s.2.tries then ⟨[-28], 0, [], s⟩ else
  if m = s.2.pass then ⟨[1], 0, [], (s.1, { s.2 with state := 2 })⟩ else ⟨[0], 0, [], (s.1, { s.2 with tries := s.2.tries + 1 })⟩
/-! ### each call of the specification -/
def evI : Ks191.Ev → List Int := fun e => match e with | .name n _ => [(1 : Int), (n : Int)] | .pad y _ => [(2 : Int), (y : Int)] | .mark y _ => [(3 : Int), (y : Int)] | .pass y _ => [(4 : Int), (y : Int)] | .any _ => [(5 : Int)]
def done (s : S) (x : Ks191.Ans × List Ks191.Ev) : S × List Int := ((match x.1.box with | some b => b | none => s.1, match x.1.co with | some d => d | none => s.2),
  x.1.ret :: ((match x.1.num with | some v => [(v : Int)] | none => []) ++ (match x.1.secret with | some b => nInt b | none => []) ++ ((x.2.length : Int) :: x.2.flatMap evI)))
theorem nats_ints (l : List Nat) : Ks191Neutral.nats (nInt l) = l := by
  unfold nInt Ks191Neutral.ints Ks191Neutral.nats
  rw [List.map_map]
  exact List.map_id' l
theorem step_name (s : S) (n : Nat) : Ks191Neutral.step s [[0, (n : Int)]] = ((mName s n).st, (mName s n).all) := by
  have e : Ks191Neutral.step s [[0, (n : Int)]] = done s (Ks191.act Ks191Neutral.given [] (.name n)) := rfl
  rw [e]
  unfold mName
  by_cases c : 9999 < n
  · simp only [Ks191.act, if_pos (show Ks191.NUMBERS ≤ n from c), if_pos c]
    rfl
  · simp only [Ks191.act, if_neg (show ¬ Ks191.NUMBERS ≤ n from c), if_neg c]
    rfl
theorem step_seal (s : S) (y : Nat) (sec : List Nat) : Ks191Neutral.step s [[1, (y : Int)], nInt sec] = ((mSeal s y sec).st, (mSeal s y sec).all) := by
  have e : Ks191Neutral.step s [[1, (y : Int)], nInt sec] = done s (Ks191.act Ks191Neutral.given [] (.seal_ y (Ks191Neutral.row [[1, (y : Int)], nInt sec] 1))) := rfl
  rw [e, show Ks191Neutral.row [[1, (y : Int)], nInt sec] 1 = sec from nats_ints sec]
  unfold mSeal
  by_cases c : P ≤ y
  · simp only [Ks191.act, if_pos (show Ks191.P ≤ y from c), if_pos c]
    rfl
  · simp only [Ks191.act, if_neg (show ¬ Ks191.P ≤ y from c), if_neg c]
    rfl
theorem step_open (s : S) (y : Nat) : Ks191Neutral.step s [[2, (y : Int)]] = ((mOpen s y).st, (mOpen s y).all) := by
  have e : Ks191Neutral.step s [[2, (y : Int)]] = done s (Ks191.act Ks191Neutral.given [] (.open_ s.1 y)) := rfl
  rw [e]
  unfold mOpen
  by_cases c : P ≤ y
  · simp only [Ks191.act, if_pos (show Ks191.P ≤ y from c), if_pos c]
    rfl
  by_cases d : mk y ≠ s.1.mark
  · simp only [Ks191.act, if_neg (show ¬ Ks191.P ≤ y from c), if_neg c, if_pos (show Ks191Neutral.given.mark y ≠ s.1.mark from d), if_pos d]
    rfl
  · simp only [Ks191.act, if_neg (show ¬ Ks191.P ≤ y from c), if_neg c, if_neg (show ¬ Ks191Neutral.given.mark y ≠ s.1.mark from d), if_neg d]
    rfl
theorem flat_any (l : List Nat) : (l.map Ks191.Ev.any).flatMap evI = l.map fun _ => (5 : Int) := by
  induction l with
  | nil => rfl
  | cons a l ih =>
    rw [List.map_cons, List.flatMap_cons, ih]
    rfl
theorem step_new (s : S) (x : Nat) (row : List Nat) : Ks191Neutral.step s [[3, (x : Int)], nInt row] = ((mNew s x row).st, (mNew s x row).all) := by
  have e : Ks191Neutral.step s [[3, (x : Int)], nInt row] = done s (Ks191.act Ks191Neutral.given (Ks191Neutral.row [[3, (x : Int)], nInt row] 1) (.cNew s.2 x)) := rfl
  rw [e, show Ks191Neutral.row [[3, (x : Int)], nInt row] 1 = row from nats_ints row]
  unfold mNew
  by_cases f : s.2.fit = false
  · simp only [Ks191.act, if_pos f]
    rfl
  by_cases c : P ≤ x
  · simp only [Ks191.act, if_neg f, if_pos (show Ks191.P ≤ x from c), if_pos c]
    rfl
  by_cases d : s.2.state = 1
  · simp only [Ks191.act, if_neg f, if_neg (show ¬ Ks191.P ≤ x from c), if_neg c, if_pos d]
    rfl
  simp only [Ks191.act, if_neg f, if_neg (show ¬ Ks191.P ≤ x from c), if_neg c, if_neg d]
  unfold done R.all
  simp only [List.flatMap_append, flat_any, List.length_append, List.length_map]
  rfl
theorem step_try (s : S) (x : Nat) : Ks191Neutral.step s [[4, (x : Int)]] = ((mTry s x).st, (mTry s x).all) := by
  have e : Ks191Neutral.step s [[4, (x : Int)]] = done s (Ks191.act Ks191Neutral.given [] (.cTry s.2 x)) := rfl
  rw [e]
  unfold mTry
  by_cases f : s.2.fit = false
  · simp only [Ks191.act, if_pos f]
    rfl
  by_cases c : P ≤ x
  · simp only [Ks191.act, if_neg f, if_pos (show Ks191.P ≤ x from c), if_pos c]
    rfl
  by_cases d : s.2.state = 0
  · simp only [Ks191.act, if_neg f, if_neg (show ¬ Ks191.P ≤ x from c), if_neg c, if_pos d]
    rfl
  by_cases t : 10 ≤ s.2.tries
  · simp only [Ks191.act, if_neg f, if_neg (show ¬ Ks191.P ≤ x from c), if_neg c, if_neg d, if_pos (show Ks191.TRIES ≤ s.2.tries from t), if_pos t]
    rfl
  simp only [Ks191.act, if_neg f, if_neg (show ¬ Ks191.P ≤ x from c), if_neg c, if_neg d, if_neg (show ¬ Ks191.TRIES ≤ s.2.tries from t), if_neg t]
  rfl
theorem step_free (s : S) (m : Nat) : Ks191Neutral.step s [[5, (m : Int)]] = ((mFree s m).st, (mFree s m).all) := by
  have e : Ks191Neutral.step s [[5, (m : Int)]] = done s (Ks191.act Ks191Neutral.given [] (.cFree s.2 m)) := rfl
  rw [e]
  unfold mFree
  by_cases f : s.2.fit = false
  · simp only [Ks191.act, if_pos f]
    rfl
  by_cases d : s.2.state = 0
  · simp only [Ks191.act, if_neg f, if_pos d]
    rfl
  by_cases t : 10 ≤ s.2.tries
  · simp only [Ks191.act, if_neg f, if_neg d, if_pos (show Ks191.TRIES ≤ s.2.tries from t), if_pos t]
    rfl
  by_cases q : m = s.2.pass
  · simp only [Ks191.act, if_neg f, if_neg d, if_neg (show ¬ Ks191.TRIES ≤ s.2.tries from t), if_neg t, if_pos q]
    rfl
  · simp only [Ks191.act, if_neg f, if_neg d, if_neg (show ¬ Ks191.TRIES ≤ s.2.tries from t), if_neg t, if_neg q]
    rfl
/-- what look tells -/
def look (s : S) : List Int := 0 :: (s.1.mark : Int) :: (nInt s.1.sealed_ ++ (s.2.pass : Int) :: (s.2.tries : Int) :: (s.2.state : Int) :: nInt s.2.row)
theorem step_box (s : S) (m : Nat) (b : List Nat) : Ks191Neutral.step s [[6, (m : Int)], nInt b] = ((Ks191.Box.mk b m, s.2), [0]) := by
  have e : Ks191Neutral.step s [[6, (m : Int)], nInt b] = ((Ks191.Box.mk (Ks191Neutral.row [[6, (m : Int)], nInt b] 1) m, s.2), [0]) := rfl
  rw [e, show Ks191Neutral.row [[6, (m : Int)], nInt b] 1 = b from nats_ints b]
theorem step_counter (s : S) (m t z : Nat) (b : List Nat) : Ks191Neutral.step s [[7, (m : Int), (t : Int), (z : Int)], nInt b] = ((s.1, Ks191.Co.mk b m t z), [0]) := by
  have e : Ks191Neutral.step s [[7, (m : Int), (t : Int), (z : Int)], nInt b] = ((s.1, Ks191.Co.mk (Ks191Neutral.row [[7, (m : Int), (t : Int), (z : Int)], nInt b] 1) m t z), [0]) := rfl
  rw [e, show Ks191Neutral.row [[7, (m : Int), (t : Int), (z : Int)], nInt b] 1 = b from nats_ints b]
theorem step_look (s : S) : Ks191Neutral.step s [[8]] = (s, look s) := rfl
/-! ### numbers as the program works them out -/
theorem P_is : P = 2305843009213693951 := rfl
theorem mark_py (y : Nat) : (6364136223846793005 * (y : Int) + 1442695040888963407).fmod 18446744073709551616 = (mk y : Int) := by
  unfold mk
  rw [Int.fmod_eq_emod_of_nonneg _ (by decide)]
  omega
theorem pass_py (y : Nat) : (2862933555777941757 * (y : Int) + 3037000493).fmod 18446744073709551616 = (ps y : Int) := by
  unfold ps
  rw [Int.fmod_eq_emod_of_nonneg _ (by decide)]
  omega
theorem name_py (n : Nat) : 1000003 * (n : Int) + 12345 = (nm n : Int) := by
  unfold nm
  omega
theorem comes_py (x t a : Nat) : ((t : Int) * (x : Int) + (a : Int)).fmod 2305843009213693951 = (((a + x * t) % P : Nat) : Int) := by
  rw [Int.fmod_eq_emod_of_nonneg _ (by decide), P_is]
  have e : (t : Int) * (x : Int) + (a : Int) = ((a + x * t : Nat) : Int) := by
    rw [Int.natCast_add, Int.natCast_mul, Int.mul_comm, Int.add_comm]
  rw [e]
  rfl
theorem pow_256 (j : Nat) : 256 ^ j = 2 ^ (8 * j) := by
  rw [Nat.pow_mul]
theorem pad_py (y k : Nat) : ((y : Int) / 2 ^ (8 * ((k : Int).fmod 8)).toNat + (k : Int)).fmod 256 = (((y / 256 ^ (k % 8) + k) % 256 : Nat) : Int) := by
  have e1 : (8 * ((k : Int).fmod 8)).toNat = 8 * (k % 8) := by
    rw [Int.fmod_eq_emod_of_nonneg _ (by decide)]
    omega
  rw [e1, Int.fmod_eq_emod_of_nonneg _ (by decide), pow_256]
  have e2 : (y : Int) / 2 ^ (8 * (k % 8)) + (k : Int) = ((y / 2 ^ (8 * (k % 8)) + k : Nat) : Int) := by
    rw [Int.natCast_add, Int.natCast_ediv, Int.natCast_pow]
    rfl
  rw [e2]
  rfl
theorem comes_lt (x : Nat) (row : List Nat) : Ks191.comes x row < P := by
  cases row with
  | nil => exact (by decide : 0 < P)
  | cons a r => exact Nat.mod_lt _ (by decide)
/-- the row gone through from its end: one number more -/
theorem comes_step {x : Nat} {row : List Nat} {j a : Nat} (hj : j < row.length) (h : row[row.length - 1 - j]? = some a) :
    Ks191.comes x (row.drop (row.length - (j + 1))) = (a + x * Ks191.comes x (row.drop (row.length - j))) % P := by
  have e : row.drop (row.length - (j + 1)) = a :: row.drop (row.length - j) := by
    have l1 : row.length - (j + 1) < row.length := by omega
    rw [List.drop_eq_getElem_cons l1, show row.length - (j + 1) + 1 = row.length - j by omega]
    rw [show row.length - 1 - j = row.length - (j + 1) by omega, List.getElem?_eq_getElem l1] at h
    rw [Option.some.inj h]
  rw [e]
  rfl
theorem fit_iff (c : Ks191.Co) : c.fit = true ↔ c.state ≤ 2 ∧ c.tries ≤ 10 ∧ ∀ v ∈ c.row, v < P := by
  unfold Ks191.Co.fit
  rw [Bool.and_eq_true, Bool.and_eq_true, decide_eq_true_eq, decide_eq_true_eq, List.all_eq_true, and_assoc]
  refine and_congr Iff.rfl (and_congr Iff.rfl ?_)
  refine forall_congr' fun v => forall_congr' fun _ => ?_
  rw [decide_eq_true_eq]
theorem not_fit {c : Ks191.Co} (h : 2 < c.state ∨ 10 < c.tries ∨ ∃ v ∈ c.row, P ≤ v) : c.fit = false := by
  cases e : c.fit with
  | false => rfl
  | true =>
    obtain ⟨a, b, d⟩ := (fit_iff c).mp e
    rcases h with h | h | ⟨v, hv, h⟩
    · omega
    · omega
    · exact absurd (d v hv) (by omega)
/-! ### the list of calls, read -/
open PyFlat (put put1 putRows putRow okCall)
/-- what kind of call it is -/
inductive Kind (s : S) : List (List Int) → Prop
  | name_ (n : Nat) : Kind s [[0, (n : Int)]]
  | seal_ (y : Nat) (sec : List Nat) : Kind s [[1, (y : Int)], nInt sec]
  | open_ (y : Nat) : Kind s [[2, (y : Int)]]
  | new_ (x : Nat) (row : List Nat) (h : s.2.fit = true → x < P → s.2.state ≠ 1 → row.length = 11) : Kind s [[3, (x : Int)], nInt row]
  | try_ (x : Nat) : Kind s [[4, (x : Int)]]
  | free_ (m : Nat) : Kind s [[5, (m : Int)]]
  | box_ (m : Nat) (b : List Nat) : Kind s [[6, (m : Int)], nInt b]
  | counter_ (m t z : Nat) (row : List Nat) : Kind s [[7, (m : Int), (t : Int), (z : Int)], nInt row]
  | look_ : Kind s [[8]]
theorem nat_of {x : Int} (h : 0 ≤ x) : ∃ n : Nat, x = (n : Int) := ⟨x.toNat, by omega⟩
theorem nats_of : ∀ {l : List Int}, (∀ x ∈ l, 0 ≤ x) → ∃ m : List Nat, l = nInt m
  | [], _ => ⟨[], rfl⟩
  | a :: l, h => by
    obtain ⟨n, e⟩ := nat_of (h a (List.Mem.head _))
    obtain ⟨m, e2⟩ := nats_of (l := l) fun x hx => h x (List.Mem.tail _ hx)
    exact ⟨n :: m, by rw [e, e2]; rfl⟩
theorem one_of {α : Type} {l : List α} (h : l.length = 1) : ∃ a, l = [a] := by
  match l, h with
  | [a], _ => exact ⟨a, rfl⟩
theorem three_of {α : Type} {l : List α} (h : l.length = 3) : ∃ a b c, l = [a, b, c] := by
  match l, h with
  | [a, b, c], _ => exact ⟨a, b, c, rfl⟩
theorem nil_of {α : Type} {l : List α} (h : l.length = 0) : l = [] := List.eq_nil_of_length_eq_zero h
theorem scripted_new {s : S} {x : Nat} {row : List Nat} (h : Ks191Neutral.scripted s [[3, (x : Int)], nInt row] = true) (hf : s.2.fit = true) (hx : x < P) (hs : s.2.state ≠ 1) : row.length = 11 := by
  have e : Ks191Neutral.row [[3, (x : Int)], nInt row] 1 = row := nats_ints row
  have h2 : (if (s.2.fit && decide (x < Ks191.P) && s.2.state != 1) = true then (Ks191Neutral.row [[3, (x : Int)], nInt row] 1).length == 11 && (Ks191Neutral.row [[3, (x : Int)], nInt row] 1).all (fun v => decide (v < Ks191.P)) else Ks191Neutral.row [[3, (x : Int)], nInt row] 1 == []) = true := h
  rw [if_pos (by rw [hf, decide_eq_true (show x < Ks191.P from hx), bne_iff_ne.mpr hs]; rfl), e, Bool.and_eq_true] at h2
  exact eq_of_beq h2.1
theorem kinds {s : S} {c : List (List Int)} (hok : okCall PyKs191.shape c) (hn : ∀ x ∈ put1 c, 0 ≤ x) (hs : Ks191Neutral.scripted s c = true) : Kind s c := by
  obtain ⟨p, a, rows, rfl, hsh⟩ := hok
  have ha : ∀ x ∈ a, 0 ≤ x := fun x hx => hn x (by
    show x ∈ (p :: a) ++ putRows rows
    exact List.mem_append.mpr (.inl (List.Mem.tail _ hx)))
  have hr1 : ∀ r, rows = [r] → ∀ x ∈ r, 0 ≤ x := fun r e x hx => hn x (by
    show x ∈ (p :: a) ++ putRows rows
    rw [e]
    exact List.mem_append.mpr (.inr (List.mem_append.mpr (.inl (List.Mem.tail _ hx)))))
  unfold PyKs191.shape at hsh
  have one0 : some ((1 : Nat), (0 : Nat)) = some (a.length, rows.length) → (∃ x : Nat, a = [(x : Int)]) ∧ rows = [] := fun h => by
    obtain ⟨e1, e2⟩ := Prod.mk.inj (Option.some.inj h)
    obtain ⟨x, rfl⟩ := one_of e1.symm
    obtain ⟨n, rfl⟩ := nat_of (ha x (List.Mem.head _))
    exact ⟨⟨n, rfl⟩, nil_of e2.symm⟩
  have one1 : some ((1 : Nat), (1 : Nat)) = some (a.length, rows.length) → (∃ x : Nat, a = [(x : Int)]) ∧ ∃ r : List Nat, rows = [nInt r] := fun h => by
    obtain ⟨e1, e2⟩ := Prod.mk.inj (Option.some.inj h)
    obtain ⟨x, rfl⟩ := one_of e1.symm
    obtain ⟨n, rfl⟩ := nat_of (ha x (List.Mem.head _))
    obtain ⟨r, e3⟩ := one_of e2.symm
    obtain ⟨m, e4⟩ := nats_of (hr1 r e3)
    exact ⟨⟨n, rfl⟩, m, by rw [e3, e4]⟩
  by_cases p0 : p = 0
  · subst p0
    rw [if_pos rfl] at hsh
    obtain ⟨⟨n, rfl⟩, rfl⟩ := one0 hsh
    exact .name_ n
  rw [if_neg p0] at hsh
  by_cases p1 : p = 1
  · subst p1
    rw [if_pos rfl] at hsh
    obtain ⟨⟨n, rfl⟩, r, rfl⟩ := one1 hsh
    exact .seal_ n r
  rw [if_neg p1] at hsh
  by_cases p2 : p = 2
  · subst p2
    rw [if_pos rfl] at hsh
    obtain ⟨⟨n, rfl⟩, rfl⟩ := one0 hsh
    exact .open_ n
  rw [if_neg p2] at hsh
  by_cases p3 : p = 3
  · subst p3
    rw [if_pos rfl] at hsh
    obtain ⟨⟨n, rfl⟩, r, rfl⟩ := one1 hsh
    exact .new_ n r (scripted_new hs)
  rw [if_neg p3] at hsh
  by_cases p4 : p = 4
  · subst p4
    rw [if_pos rfl] at hsh
    obtain ⟨⟨n, rfl⟩, rfl⟩ := one0 hsh
    exact .try_ n
  rw [if_neg p4] at hsh
  by_cases p5 : p = 5
  · subst p5
    rw [if_pos rfl] at hsh
    obtain ⟨⟨n, rfl⟩, rfl⟩ := one0 hsh
    exact .free_ n
  rw [if_neg p5] at hsh
  by_cases p6 : p = 6
  · subst p6
    rw [if_pos rfl] at hsh
    obtain ⟨⟨n, rfl⟩, r, rfl⟩ := one1 hsh
    exact .box_ n r
  rw [if_neg p6] at hsh
  by_cases p7 : p = 7
  · subst p7
    rw [if_pos rfl] at hsh
    obtain ⟨e1, e2⟩ := Prod.mk.inj (Option.some.inj hsh)
    obtain ⟨x, y, z, rfl⟩ := three_of e1.symm
    obtain ⟨m, rfl⟩ := nat_of (ha x (by simp))
    obtain ⟨t, rfl⟩ := nat_of (ha y (by simp))
    obtain ⟨u, rfl⟩ := nat_of (ha z (by simp))
    obtain ⟨r, e3⟩ := one_of e2.symm
    obtain ⟨w, e4⟩ := nats_of (hr1 r e3)
    rw [e3, e4]
    exact .counter_ m t u w
  rw [if_neg p7] at hsh
  by_cases p8 : p = 8
  · subst p8
    rw [if_pos rfl] at hsh
    obtain ⟨e1, e2⟩ := Prod.mk.inj (Option.some.inj hsh)
    rw [nil_of e1.symm, nil_of e2.symm]
    exact .look_
  rw [if_neg p8] at hsh
  cases hsh
/-! ### the walk over the calls -/
/-- what is told of all calls from a state on -/
def rest (s : S) (cs : List (List (List Int))) : List Int := PyFlat.told (PyFlat.played Ks191Neutral.step s cs)
theorem rest_nil (s : S) : rest s [] = [] := rfl
theorem rest_cons (s : S) (c : List (List Int)) (cs : List (List (List Int))) : rest s (c :: cs) = ((Ks191Neutral.step s c).2.length : Int) :: (Ks191Neutral.step s c).2 ++ rest (Ks191Neutral.step s c).1 cs := rfl
/-- what holds ahead of each call: the list from i on is what cs puts; due: what is to be given back -/
structure Walk (xs due : List Int) (i : Nat) (given : List Int) (s : S) (cs : List (List (List Int))) : Prop where
  left : xs.drop i = put cs
  ok : ∀ c ∈ cs, okCall PyKs191.shape c
  pos : ∀ x ∈ put cs, 0 ≤ x
  goes : Ks191Neutral.goes s cs = true
  told : given ++ rest s cs = due
  small : due.length ≤ 10000000
theorem put1_ne {c : List (List Int)} (h : okCall PyKs191.shape c) : put1 c ≠ [] := by
  obtain ⟨p, a, rows, rfl, _⟩ := h
  intro e
  cases e
theorem Walk.over {xs due : List Int} {i : Nat} {given : List Int} {s : S} {cs : List (List (List Int))} (w : Walk xs due i given s cs) (h : ¬ i < xs.length) : given = due := by
  have e : put cs = [] := by
    rw [← w.left]
    exact List.drop_eq_nil_of_le (by omega)
  cases cs with
  | nil =>
    have t := w.told
    rw [rest_nil, List.append_nil] at t
    exact t
  | cons c cs => exact absurd (List.append_eq_nil_iff.mp (show put1 c ++ put cs = [] from e)).1 (put1_ne (w.ok c (List.Mem.head _)))
theorem Walk.next {xs due : List Int} {i : Nat} {given : List Int} {s : S} {cs : List (List (List Int))} (w : Walk xs due i given s cs) (h : i < xs.length) :
    ∃ c cs', cs = c :: cs' ∧ Kind s c ∧ xs.drop i = put1 c ++ put cs' ∧ (∃ z, due = given ++ ((Ks191Neutral.step s c).2.length : Int) :: (Ks191Neutral.step s c).2 ++ z) ∧
      Walk xs due (i + (put1 c).length) (given ++ ((Ks191Neutral.step s c).2.length : Int) :: (Ks191Neutral.step s c).2) (Ks191Neutral.step s c).1 cs' := by
  cases cs with
  | nil =>
    have e : xs.drop i = [] := w.left
    have := congrArg List.length e
    rw [List.length_drop] at this
    simp at this
    omega
  | cons c cs' =>
    have g : (Ks191Neutral.form c && Ks191Neutral.scripted s c && Ks191Neutral.goes (Ks191Neutral.step s c).1 cs') = true := w.goes
    rw [Bool.and_eq_true, Bool.and_eq_true] at g
    have l : xs.drop i = put1 c ++ put cs' := w.left
    have p : ∀ x ∈ put1 c ++ put cs', 0 ≤ x := w.pos
    have t := w.told
    rw [rest_cons, ← List.append_assoc] at t
    refine ⟨c, cs', rfl, kinds (w.ok c (List.Mem.head _)) (fun x hx => p x (List.mem_append.mpr (.inl hx))) g.1.2, l, ⟨_, t.symm⟩, ?_, fun d hd => w.ok d (List.Mem.tail _ hd), fun x hx => p x (List.mem_append.mpr (.inr hx)), g.2, t, w.small⟩
    rw [← List.drop_drop, l, List.drop_left]
theorem whole_id (c : List (List Int)) : PyKs191.whole c = c := by
  unfold PyKs191.whole
  split <;> rfl
theorem Walk.begin {xs : List Int} (hp : ∀ x ∈ xs, 0 ≤ x) (h : PyKs191.answers_asked xs = true) : ∃ cs, Walk xs (PyKs191.answers xs) 0 [] Ks191Neutral.start cs := by
  unfold PyKs191.answers_asked at h
  cases e : PyFlat.calls PyKs191.shape xs.length xs with
  | none =>
    rw [e] at h
    cases h
  | some raw =>
    rw [e] at h
    have h' : (!raw.isEmpty && PyFlat.atMost 5000 raw && PyInside.calls PyKs191.bound raw && Ks191Neutral.asked (raw.map PyKs191.whole) && PyFlat.short 10000000 (PyKs191.answers xs)) = true := h
    have ew : raw.map PyKs191.whole = raw := by
      rw [show PyKs191.whole = id from funext whole_id]
      exact List.map_id raw
    rw [ew, Bool.and_eq_true, Bool.and_eq_true] at h'
    have ea : PyKs191.answers xs = rest Ks191Neutral.start raw := by
      unfold PyKs191.answers PyKs191.calls
      rw [e]
      show PyFlat.told (PyFlat.played Ks191Neutral.step Ks191Neutral.start (raw.map PyKs191.whole)) = _
      rw [ew]
      rfl
    have hg : Ks191Neutral.goes Ks191Neutral.start raw = true := by
      have q : (raw.all Ks191Neutral.asked1 && decide (1 ≤ raw.length) && decide (raw.length ≤ 5000) && Ks191Neutral.orderly raw && decide (((Ks191Neutral.f raw).map List.length).foldl (· + ·) 0 < 1000000)) = true := h'.1.2
      rw [Bool.and_eq_true, Bool.and_eq_true] at q
      exact q.1.2
    obtain ⟨p1, p2⟩ := PyFlat.put_calls _ _ _ e
    refine ⟨raw, p1, p2, fun x hx => hp x (by rw [p1]; exact hx), hg, ?_, of_decide_eq_true (show decide ((PyKs191.answers xs).length ≤ 10000000) = true from h'.2)⟩
    rw [List.nil_append]
    exact ea.symm
end Ten

set_option Elab.async false
set_option linter.all false
set_option maxRecDepth 100000
set_option maxHeartbeats 4000000
/-! The program's text by places; how its objects lie in the heap; what each def promises. -/
namespace Ten
open PySem PySem.Spec PyProof.Rows L2
open Ks191Neutral (S)
/-! ### the text -/
def top (i : Nat) : Stmt := PySem.Challenge.pw_tentries_s01_answers.main.body.getD i (.Pass ⟨0, 0, 0, 0⟩)
abbrev sComes : Stmt := top 3
abbrev sNameOf : Stmt := top 7
abbrev sPadOf : Stmt := top 8
abbrev sMarkOf : Stmt := top 9
abbrev sPassOf : Stmt := top 10
abbrev sAInit : Stmt := inClass (top 11) 0
abbrev sNote : Stmt := inClass (top 11) 1
abbrev sAskName : Stmt := inClass (top 11) 2
abbrev sAskPad : Stmt := inClass (top 11) 3
abbrev sAskMark : Stmt := inClass (top 11) 4
abbrev sAskPass : Stmt := inClass (top 11) 5
abbrev sAskRow : Stmt := inClass (top 11) 6
abbrev sKInit : Stmt := inClass (top 17) 0
abbrev sSpoilt : Stmt := top 18
abbrev sXor : Stmt := top 27
abbrev sName : Stmt := top 28
abbrev sSeal : Stmt := top 29
abbrev sOpen : Stmt := top 30
abbrev sNew : Stmt := top 31
abbrev sTry : Stmt := top 32
abbrev sFree : Stmt := top 33
abbrev sBox : Stmt := top 34
abbrev sCounter : Stmt := top 35
abbrev sLook : Stmt := top 36
abbrev sRInit : Stmt := inClass (top 38) 0
abbrev sMore : Stmt := inClass (top 38) 1
abbrev sNum : Stmt := inClass (top 38) 2
abbrev sRow : Stmt := inClass (top 38) 3
abbrev sPutC : Stmt := top 50
abbrev sTold : Stmt := top 51
abbrev sCall : Stmt := top 52
abbrev sAns : Stmt := top 53
/-! ### heaps -/
def vI (l : List Int) : List V := l.map V.int
def vN (l : List Nat) : List V := vI (nInt l)
theorem vI_app (a b : List Int) : vI (a ++ b) = vI a ++ vI b := List.map_append
theorem vI_len (a : List Int) : (vI a).length = a.length := List.length_map ..
theorem vN_len (a : List Nat) : (vN a).length = a.length := (List.length_map ..).trans (List.length_map ..)
theorem vN_at {l : List Nat} {i : Nat} {x : V} (h : (vN l)[i]? = some x) : ∃ n, l[i]? = some n ∧ x = V.int (n : Int) := by
  unfold vN vI nInt Ks191Neutral.ints at h
  rw [List.getElem?_map, List.getElem?_map] at h
  cases e : l[i]? with
  | none =>
    rw [e] at h
    cases h
  | some n =>
    rw [e] at h
    exact ⟨n, rfl, (Option.some.inj h).symm⟩
theorem vN_get {l : List Nat} {i n : Nat} (h : l[i]? = some n) : (vN l)[i]? = some (V.int (n : Int)) := by
  unfold vN vI nInt Ks191Neutral.ints
  rw [List.getElem?_map, List.getElem?_map, h]
  rfl
/-- all that was tracked is as it was, but what stands at ex -/
def Keep (H H' : Hp) (ex : List Addr) : Prop := ∀ b o, H b = some o → b ∉ ex → H' b = some o
theorem Keep.refl (H : Hp) (ex : List Addr) : Keep H H ex := fun _ _ h _ => h
theorem Keep.trans {H H1 H2 : Hp} {ex ex' : List Addr} (a : Keep H H1 ex) (b : Keep H1 H2 ex') (h : ∀ p ∈ ex', p ∈ ex ∨ H p = none) : Keep H H2 ex := fun c o e n => by
  refine b c o (a c o e n) fun m => ?_
  rcases h c m with k | k
  · exact n k
  · rw [k] at e
    cases e
theorem Keep.mono {H H1 : Hp} {ex ex' : List Addr} (a : Keep H H1 ex) (h : ∀ p ∈ ex, p ∈ ex' ∨ H p = none) : Keep H H1 ex' := fun c o e n => by
  refine a c o e fun m => ?_
  rcases h c m with k | k
  · exact n k
  · rw [k] at e
    cases e
theorem Keep.put {H : Hp} {p : Addr} {o : HO} : Keep H (upd H p o) [p] := fun b x e n => by
  rw [upd_ne (fun q => n (by rw [q]; exact List.Mem.head _))]
  exact e
theorem Keep.store {H H1 : Hp} {ex : List Addr} {p : Addr} {o : HO} (a : Keep H H1 ex) (h : p ∈ ex ∨ H p = none) : Keep H (upd H1 p o) ex := fun b x e n => by
  rw [upd_ne (fun q => ?_)]
  · exact a b x e n
  · rcases h with k | k
    · exact n (by rw [q]; exact k)
    · rw [q, k] at e
      cases e
theorem Keep.new {H : Hp} {p : Addr} {o : HO} {ex : List Addr} (h : H p = none) : Keep H (upd H p o) ex := fun b x e _ => by
  rw [upd_ne (ne_of_none e h)]
  exact e
/-- a list that is read stands still where none of what changes is it -/
theorem Keep.seq {K : PySem.W.Frag} {H H' : Hp} {ex : List Addr} {a : Addr} {xs : List V} (k : Keep H H' ex) (h : SqL K H a xs) (n : ∀ p ∈ ex, H p = none ∨ (∃ C dx fs, H p = some (.ins C dx fs)) ∨ a ≠ p) : SqL K H' a xs := by
  rcases h with (h | ⟨o, h⟩) | h
  · refine .inl (.inl (k _ _ h fun m => ?_))
    rcases n a m with q | ⟨C, dx, fs, q⟩ | q
    · rw [h] at q
      cases q
    · rw [h] at q
      cases q
    · exact q rfl
  · refine .inl (.inr ⟨o, k _ _ h fun m => ?_⟩)
    rcases n a m with q | ⟨C, dx, fs, q⟩ | q
    · rw [h] at q
      cases q
    · rw [h] at q
      cases q
    · exact q rfl
  · exact .inr h
theorem Keep.seq1 {K : PySem.W.Frag} {H H' : Hp} {a p C dx : Addr} {fs : List (Str × V)} {xs : List V} (k : Keep H H' [p]) (h : SqL K H a xs) (e : H p = some (.ins C dx fs)) : SqL K H' a xs := k.seq h fun q hq => by
  rw [List.mem_singleton.mp hq]
  exact .inr (.inl ⟨_, _, _, e⟩)
theorem Keep.free {H H' : Hp} {ex : List Addr} (k : Keep H H' ex) {p : Addr} (h : H' p = none) (n : p ∉ ex) : H p = none := by
  cases q : H p with
  | none => rfl
  | some o =>
    rw [k p o q n] at h
    cases h
theorem if_t {c : Bool} {A B : Prop} (hc : c = true) (h : A) : if c = true then A else B := by
  rw [if_pos hc]
  exact h
theorem if_f {c : Bool} {A B : Prop} (hc : c = false) (h : B) : if c = true then A else B := by
  rw [hc, if_neg Bool.false_ne_true]
  exact h
theorem eq_t {i j : Int} (h : i = j) : decide (V.int i = V.int j) = true := decide_eq_true (by rw [h])
theorem eq_f {i j : Int} (h : ¬ i = j) : decide (V.int i = V.int j) = false := decide_eq_false fun e => h (V.int.inj e)
theorem ne_t {i j : Int} (h : ¬ i = j) : (!decide (V.int i = V.int j)) = true := by
  rw [eq_f h]
  rfl
theorem ne_f {i j : Int} (h : i = j) : (!decide (V.int i = V.int j)) = false := by
  rw [eq_t h]
  rfl
/-! ### how the objects lie in the heap -/
def kF (s : S) (ls lr : Addr) : List (Str × V) := [("mark", .int (s.1.mark : Int)), ("sealed", .ref ls), ("pass_told", .int (s.2.pass : Int)), ("tries", .int (s.2.tries : Int)), ("state", .int (s.2.state : Int)), ("row", .ref lr)]
def aF (n : Nat) (la : Addr) : List (Str × V) := [("how_many", .int (n : Int)), ("asked", .ref la)]
def rF (xa : Addr) (i : Nat) : List (Str × V) := [("numbers", .ref xa), ("at", .int (i : Int))]
structure KeptAt (C : Addr) (H : Hp) (a ls lr : Addr) (s : S) : Prop where
  at_ : ∃ dx, H a = some (.ins C dx (kF s ls lr))
  box : H ls = some (.lst (vN s.1.sealed_))
  row : H lr = some (.lst (vN s.2.row))
structure AskAt (C : Addr) (H : Hp) (a la : Addr) (n : Nat) (l : List Int) : Prop where
  at_ : ∃ dx, H a = some (.ins C dx (aF n la))
  li : H la = some (.lst (vI l))
structure ReadAt (C : Addr) (H : Hp) (a xa : Addr) (i : Nat) : Prop where
  at_ : ∃ dx, H a = some (.ins C dx (rF xa i))
theorem lk_here {k : Str} {v : V} {r : List (Str × V)} : List.lookup k ((k, v) :: r) = some v := by
  have e : (k == k) = true := beq_self_eq_true k
  simp only [List.lookup, e]
theorem lk_past {k g : Str} {v : V} {r : List (Str × V)} (h : (k == g) = false) : List.lookup k ((g, v) :: r) = List.lookup k r := by
  simp only [List.lookup, h]
theorem put_here {f : Str} {v x : V} {r : List (Str × V)} : putF f v ((f, x) :: r) = (f, v) :: r := if_pos rfl
theorem put_past {f g : Str} {v x : V} {r : List (Str × V)} (h : ¬ g = f) : putF f v ((g, x) :: r) = (g, x) :: putF f v r := if_neg h
theorem kF_mark (s : S) (ls lr : Addr) : (kF s ls lr).lookup ("mark" : Str) = some (.int (s.1.mark : Int)) := lk_here
theorem kF_sealed (s : S) (ls lr : Addr) : (kF s ls lr).lookup ("sealed" : Str) = some (.ref ls) := (lk_past (by decide +kernel)).trans lk_here
theorem kF_pass (s : S) (ls lr : Addr) : (kF s ls lr).lookup ("pass_told" : Str) = some (.int (s.2.pass : Int)) := (lk_past (by decide +kernel)).trans ((lk_past (by decide +kernel)).trans lk_here)
theorem kF_tries (s : S) (ls lr : Addr) : (kF s ls lr).lookup ("tries" : Str) = some (.int (s.2.tries : Int)) := (lk_past (by decide +kernel)).trans ((lk_past (by decide +kernel)).trans ((lk_past (by decide +kernel)).trans lk_here))
theorem kF_state (s : S) (ls lr : Addr) : (kF s ls lr).lookup ("state" : Str) = some (.int (s.2.state : Int)) := (lk_past (by decide +kernel)).trans ((lk_past (by decide +kernel)).trans ((lk_past (by decide +kernel)).trans ((lk_past (by decide +kernel)).trans lk_here)))
theorem kF_row (s : S) (ls lr : Addr) : (kF s ls lr).lookup ("row" : Str) = some (.ref lr) := (lk_past (by decide +kernel)).trans ((lk_past (by decide +kernel)).trans ((lk_past (by decide +kernel)).trans ((lk_past (by decide +kernel)).trans ((lk_past (by decide +kernel)).trans lk_here))))
theorem aF_how (n la : Nat) : (aF n la).lookup ("how_many" : Str) = some (.int (n : Int)) := lk_here
theorem aF_asked (n la : Nat) : (aF n la).lookup ("asked" : Str) = some (.ref la) := (lk_past (by decide +kernel)).trans lk_here
theorem rF_numbers (xa i : Nat) : (rF xa i).lookup ("numbers" : Str) = some (.ref xa) := lk_here
theorem rF_at (xa i : Nat) : (rF xa i).lookup ("at" : Str) = some (.int (i : Int)) := (lk_past (by decide +kernel)).trans lk_here
/-- a name that none of the fields has -/
theorem lk_none {m : Str} : ∀ {l : List (Str × V)}, (l.all fun p => !(m == p.1)) = true → l.lookup m = none
  | [], _ => rfl
  | (g, v) :: r, h => by
    rw [List.all_cons, Bool.and_eq_true] at h
    have e : (m == g) = false := by
      have q : (!(m == g)) = true := h.1
      cases z : (m == g) with
      | false => rfl
      | true =>
        rw [z] at q
        cases q
    rw [lk_past e]
    exact lk_none h.2
theorem kF_no {m : Str} (s : S) (ls lr : Addr) (h : ((["mark", "sealed", "pass_told", "tries", "state", "row"] : List Str).all fun (p : Str) => !(m == p)) = true) : (kF s ls lr).lookup m = none := lk_none h
theorem aF_no {m : Str} (n la : Nat) (h : ((["how_many", "asked"] : List Str).all fun (p : Str) => !(m == p)) = true) : (aF n la).lookup m = none := lk_none h
theorem rF_no {m : Str} (xa i : Nat) (h : ((["numbers", "at"] : List Str).all fun (p : Str) => !(m == p)) = true) : (rF xa i).lookup m = none := lk_none h
/-! ### defs, methods, classes by what they promise -/
structure DefOk (P : Program) (w : World) (K : PySem.W.Frag) (mg : Str → Option Value) (base : Heap) (x : Str) (k : Nat) (ps : List Str) (sp : Sp) : Prop where
  ex : ∃ f fd, mg x = some (.ref f) ∧ PySem.W.keepIn K (.ref f) = true ∧ Binds K fd ps [] ∧ FnOk P w K mg base CX0 k f fd ps sp
structure MethOk (P : Program) (w : World) (K : PySem.W.Frag) (mg : Str → Option Value) (base : Heap) (C : Addr) (m : Str) (k : Nat) (ps : List Str) (sp : Sp) : Prop where
  ex : ∃ f fd, Meth K C m f ∧ Binds K fd ps [] ∧ FnOk P w K mg base CX0 k f fd ps sp
structure MakeOk (P : Program) (w : World) (K : PySem.W.Frag) (mg : Str → Option Value) (base : Heap) (x : Str) (C : Addr) (k : Nat) (ps : List Str) (sp : Sp) : Prop where
  ex : ∃ f fd, mg x = some (.ref C) ∧ Mk K C f ∧ Binds K fd ps [] ∧ FnOk P w K mg base CX0 k f fd ps sp
section
variable {X : Cx} {k : Nat} {C : Addr} {ps : List Str} {sp : Sp} {x m : Str} {p pos apos : Pos} {e o : Expr} {es : List Expr} {ta : TE} {t : TA}
theorem pe_callD (D : DefOk X.prog X.w X.K X.mg X.base x k ps sp) (hr : Room k X.A) (hg : Gl X x) (ha : PA X (e :: es) t) (hdb : (x == ("__debug__" : Str)) = false := by decide)
    (he : starEach (e :: es) X.env = (false, eval e X.env) :: starEach es X.env := by rfl) (hpl : (backTo pos (starEach es X.env)).any (·.1) = false := by rfl) : PE X (.Call (.Name x p) (e :: es) [] pos) (tCall sp [] E0 t) := by
  obtain ⟨f, fd, h1, h2, h3, h4⟩ := D.ex
  exact pe_call h4 hr hg h1 h2 h3 .nil pass0 ha hdb he hpl
theorem pe_makeD0 (D : MakeOk X.prog X.w X.K X.mg X.base x C k ps sp) (hr : Room (k + 1) X.A) (hg : Gl X x) (hdb : (x == ("__debug__" : Str)) = false := by decide) : PE X (.Call (.Name x p) [] [] pos) (tMake C sp [] E0 tNil) := by
  obtain ⟨f, fd, h1, h2, h3, h4⟩ := D.ex
  exact pe_make0 h2 h4 hr hg h1 h3 .nil pass0 hdb
theorem pe_gl {c : Int} (hg : Gl X x) (h : ∃ t, X.mg x = some (.int c t)) (hd : (x == ("__debug__" : Str)) = false := by decide) : PE X (.Name x pos) (tC (.int c)) := by
  obtain ⟨t, h⟩ := h
  exact pe_glob hg h ⟨_, rfl⟩ hd
end
end Ten
namespace Ten
open PySem PySem.Spec PyProof.Rows L2
open Ks191Neutral (S)
section
variable {X : Cx} {k : Nat} {C : Addr} {ps : List Str} {sp : Sp} {x m : Str} {p pos apos : Pos} {e o : Expr} {es : List Expr} {ta : TE} {t : TA}
theorem pe_makeD (D : MakeOk X.prog X.w X.K X.mg X.base x C k ps sp) (hr : Room (k + 1) X.A) (hg : Gl X x) (ha : PA X (e :: es) t) (hdb : (x == ("__debug__" : Str)) = false := by decide)
    (he : starEach (e :: es) X.env = (false, eval e X.env) :: starEach es X.env := by rfl) (hpl : (backTo pos (starEach es X.env)).any (·.1) = false := by rfl) : PE X (.Call (.Name x p) (e :: es) [] pos) (tMake C sp [] E0 t) := by
  obtain ⟨f, fd, h1, h2, h3, h4⟩ := D.ex
  exact pe_make h2 h4 hr hg h1 h3 .nil pass0 ha hdb he hpl
theorem pe_methD {pl : Sem Bool} (he : PE X o ta) (c : Cls X.K C) (D : MethOk X.prog X.w X.K X.mg X.base C m k ps sp) (hr : Room k X.A) (ha : PA X (e :: es) t)
    (hst : starEach (e :: es) X.env = (false, eval e X.env) :: starEach es X.env := by rfl) (hpl : (backTo pos (starEach es X.env)).any (·.1) = false := by rfl)
    (ht : eval (.Call (.Attribute o m apos) (e :: es) [] pos) X.env = (do
      let ov ← eval o X.env
      standAt apos.atName
      let (f, first) ← holding [ov] (getMethod ov m pl)
      callWith pos f first (backTo pos (starEach (e :: es) X.env)) (backToKw pos (keywordEach [] X.env))) := by rfl) :
    PE X (.Call (.Attribute o m apos) (e :: es) [] pos) (tMeth C m sp [] E0 ta t) := by
  obtain ⟨f, fd, h1, h3, h4⟩ := D.ex
  exact pe_meth he c h1 h4 hr h3 .nil pass0 ha hst hpl ht
theorem pe_methD0 {pl : Sem Bool} (he : PE X o ta) (c : Cls X.K C) (D : MethOk X.prog X.w X.K X.mg X.base C m k ps sp) (hr : Room k X.A)
    (ht : eval (.Call (.Attribute o m apos) [] [] pos) X.env = (do
      let ov ← eval o X.env
      standAt apos.atName
      let (f, first) ← holding [ov] (getMethod ov m pl)
      callWith pos f first (backTo pos (starEach [] X.env)) (backToKw pos (keywordEach [] X.env))) := by rfl) :
    PE X (.Call (.Attribute o m apos) [] [] pos) (tMeth C m sp [] E0 ta tNil) := by
  obtain ⟨f, fd, h1, h3, h4⟩ := D.ex
  exact pe_meth0 he c h1 h4 hr h3 .nil pass0 ht
end
end Ten

set_option Elab.async false
set_option linter.all false
set_option maxRecDepth 100000
set_option maxHeartbeats 4000000
namespace Ten
open PySem PySem.Spec PyProof.Rows L2
open Ks191Neutral (S)
/-! ### the defs that call none -/
def spComes (K : PySem.W.Frag) : Sp := fun vs H Q _ => ∃ (a : Addr) (row : List Nat) (x : Nat), vs = [.ref a, .int (x : Int)] ∧ SqL K H a (vN row) ∧ x < P ∧ Q (.int (Ks191.comes x row : Int)) H
def spNameOf : Sp := fun vs H Q _ => ∃ n : Nat, vs = [.int (n : Int)] ∧ Q (.int (nm n : Int)) H
def spMarkOf : Sp := fun vs H Q _ => ∃ n : Nat, vs = [.int (n : Int)] ∧ Q (.int (mk n : Int)) H
def spPassOf : Sp := fun vs H Q _ => ∃ n : Nat, vs = [.int (n : Int)] ∧ Q (.int (ps n : Int)) H
def spPadOf : Sp := fun vs H Q _ => ∃ y : Nat, vs = [.int (y : Int)] ∧ ∀ (H' : Hp) (p : Addr), H p = none → H' p = some (.lst (vN (pd y))) → Keep H H' [] → Q (.ref p) H'
def spXor (K : PySem.W.Frag) : Sp := fun vs H Q _ => ∃ (a b : Addr) (xs ys : List Nat), vs = [.ref a, .ref b] ∧ SqL K H a (vN xs) ∧ SqL K H b (vN ys) ∧ ys.length ≤ 1000 ∧
  ∀ (H' : Hp) (p : Addr), H p = none → H' p = some (.lst (vN (xr xs ys))) → Keep H H' [] → Q (.ref p) H'
section
variable {P' : Program} {w : World} {K : PySem.W.Frag} {mg : Str → Option Value} {base : Heap} {f : Addr} {fd : FuncData}
theorem scComes : FnScope ["row", "x", "total", "number"] ["row", "x"] (defScope sComes) := ⟨rfl, rfl, rfl, by decide +kernel, rfl, by decide +kernel, by decide +kernel⟩
theorem ok_comes (F : Fun K "comes_to" "comes_to" sComes f fd) (mR : mg "reversed" = none) (gP : ∃ t, mg "P" = some (.int 2305843009213693951 t)) : FnOk P' w K mg base CX0 1 f fd ["row", "x"] (spComes K) := by
  refine F.ok scComes (fun vs H Q E h => ?_) (fun cdv A outer s H vs Q E hr h => ?_)
  · obtain ⟨a, row, x, rfl, _⟩ := h
    rfl
  · obtain ⟨a, row, x, rfl, hS, hx, q⟩ := h
    refine ⟨_, pss_cons (ps_set (i := 2) scComes.nd rfl (Or.inl rfl) pe_int)
      (pss_cons (ps_for PassesOwn.never rfl (pi_reversed (by rfl) mR (pa_cons (pv 0) pa_nil)) (pg_name (i := 3) scComes.nd rfl (Or.inl rfl))
        (pss_one (ps_set (i := 2) scComes.nd rfl (Or.inl rfl) (pe_op op_modN (pe_op op_add (pe_op op_mul (pv 2) (pv 1)) (pv 3)) (pe_gl (by rfl) gP)))))
      (pss_one (ps_ret (pv 2)))), ?_⟩
    refine ⟨_, rfl, a, vN row, rfl, hS, ?_⟩
    refine for_it (walk_rev (K := K) (a := a) (xs := vN row)) (fun i σ H' => H' = H ∧ ∃ v : Option V, σ = [some (.ref a), some (.int (x : Int)), some (.int (Ks191.comes x (row.drop (row.length - i)) : Int)), v])
      ⟨rfl, none, ?_⟩ (fun i σ H' _ p => by rw [p.1]; exact hS) ?_ ?_
    · rw [Nat.sub_zero, List.drop_length]
      rfl
    · rintro i y σ H0 H' hi ⟨rfl, v, rfl⟩ ⟨rfl, hy⟩
      rw [vN_len] at hi hy
      obtain ⟨n, hn, rfl⟩ := vN_at hy
      refine ⟨_, rfl, _, rfl, _, _, rfl, rfl, .inr ⟨by omega, by have := P_is; omega⟩, _, rfl, _, _, rfl, rfl, _, _, rfl, rfl, (by show (2305843009213693951 : Int) ≠ 0; decide), ?_⟩
      refine ⟨rfl, some (.int (n : Int)), ?_⟩
      rw [comes_step hi hn, ← comes_py]
      rfl
    · rintro σ H' ⟨rfl, v, rfl⟩
      rw [vN_len, Nat.sub_self, List.drop_zero]
      exact ⟨_, rfl, q⟩
theorem scNameOf : FnScope ["number"] ["number"] (defScope sNameOf) := ⟨rfl, rfl, rfl, by decide +kernel, rfl, by decide +kernel, by decide +kernel⟩
theorem ok_nameOf (F : Fun K "name_of" "name_of" sNameOf f fd) : FnOk P' w K mg base CX0 1 f fd ["number"] spNameOf := by
  refine F.ok scNameOf (fun vs H Q E h => ?_) (fun cdv A outer s H vs Q E hr h => ?_)
  · obtain ⟨n, rfl, _⟩ := h
    rfl
  · obtain ⟨n, rfl, q⟩ := h
    refine ⟨_, pss_one (ps_ret (pe_op op_add (pe_op op_mul pe_int (pv 0)) pe_int)), ?_⟩
    refine ⟨_, rfl, _, _, rfl, rfl, .inl ⟨by decide, by decide⟩, _, _, rfl, rfl, ?_⟩
    show Q (V.int (1000003 * (n : Int) + 12345)) H
    rw [name_py]
    exact q
theorem scMarkOf : FnScope ["y"] ["y"] (defScope sMarkOf) := ⟨rfl, rfl, rfl, by decide +kernel, rfl, by decide +kernel, by decide +kernel⟩
theorem ok_markOf (F : Fun K "mark_of" "mark_of" sMarkOf f fd) (gW : ∃ t, mg "WORD" = some (.int 18446744073709551616 t)) : FnOk P' w K mg base CX0 1 f fd ["y"] spMarkOf := by
  refine F.ok scMarkOf (fun vs H Q E h => ?_) (fun cdv A outer s H vs Q E hr h => ?_)
  · obtain ⟨n, rfl, _⟩ := h
    rfl
  · obtain ⟨n, rfl, q⟩ := h
    refine ⟨_, pss_one (ps_ret (pe_op op_modN (pe_op op_add (pe_op op_mul pe_int (pv 0)) pe_int) (pe_gl (by rfl) gW))), ?_⟩
    refine ⟨_, rfl, _, _, rfl, rfl, .inl ⟨by decide, by decide⟩, _, _, rfl, rfl, _, _, rfl, rfl, (by show (18446744073709551616 : Int) ≠ 0; decide), ?_⟩
    show Q (V.int ((6364136223846793005 * (n : Int) + 1442695040888963407).fmod 18446744073709551616)) H
    rw [mark_py]
    exact q
theorem scPassOf : FnScope ["y"] ["y"] (defScope sPassOf) := ⟨rfl, rfl, rfl, by decide +kernel, rfl, by decide +kernel, by decide +kernel⟩
theorem ok_passOf (F : Fun K "pass_of" "pass_of" sPassOf f fd) (gW : ∃ t, mg "WORD" = some (.int 18446744073709551616 t)) : FnOk P' w K mg base CX0 1 f fd ["y"] spPassOf := by
  refine F.ok scPassOf (fun vs H Q E h => ?_) (fun cdv A outer s H vs Q E hr h => ?_)
  · obtain ⟨n, rfl, _⟩ := h
    rfl
  · obtain ⟨n, rfl, q⟩ := h
    refine ⟨_, pss_one (ps_ret (pe_op op_modN (pe_op op_add (pe_op op_mul pe_int (pv 0)) pe_int) (pe_gl (by rfl) gW))), ?_⟩
    refine ⟨_, rfl, _, _, rfl, rfl, .inl ⟨by decide, by decide⟩, _, _, rfl, rfl, _, _, rfl, rfl, (by show (18446744073709551616 : Int) ≠ 0; decide), ?_⟩
    show Q (V.int ((2862933555777941757 * (n : Int) + 3037000493).fmod 18446744073709551616)) H
    rw [pass_py]
    exact q
/-- a comprehension without a test -/
theorem yes_of {σ : L2.St} {H : Hp} {A B : Hp → Prop} (h : A H) : tYes σ H (fun b H3 => if b = true then A H3 else B H3) := by
  show if true = true then A H else B H
  rw [if_pos rfl]
  exact h
theorem pd_step (y : Nat) {i : Nat} (hi : i < 64) : (vN (pd y)).take (i + 1) = (vN (pd y)).take i ++ [V.int (((y / 256 ^ (i % 8) + i) % 256 : Nat) : Int)] := by
  have e : (pd y)[i]? = some ((y / 256 ^ (i % 8) + i) % 256) := by
    unfold pd
    rw [List.getElem?_map, List.getElem?_range hi]
    rfl
  rw [List.take_succ, vN_get e]
  rfl
theorem scPadOf : FnScope ["y", "i"] ["y"] (defScope sPadOf) := ⟨rfl, rfl, rfl, by decide +kernel, rfl, by decide +kernel, by decide +kernel⟩
theorem ok_padOf (F : Fun K "pad_of" "pad_of" sPadOf f fd) (mR : mg "range" = none) (gL : ∃ t, mg "SEALED_LENGTH" = some (.int 64 t)) : FnOk P' w K mg base CX0 1 f fd ["y"] spPadOf := by
  refine F.ok scPadOf (fun vs H Q E h => ?_) (fun cdv A outer s H vs Q E hr h => ?_)
  · obtain ⟨n, rfl, _⟩ := h
    rfl
  · obtain ⟨y, rfl, q⟩ := h
    refine ⟨_, pss_one (ps_ret (pe_lc (own := [("i", 1)]) (g := gName 1) (tt := tYes) rfl scPadOf.nd (pi_range1 (by rfl) mR (pa_cons (pe_gl (by rfl) gL) pa_nil)) (blkOk_by (own := [("i", 1)]) (N := ["y", "i"]) (sc := defScope sPadOf) (by decide +kernel))
      (fun _ _ _ _ _ => pg_name (i := 1) scPadOf.nd rfl (Or.inl rfl)) (fun _ _ _ _ _ => pts_nil)
      (fun _ _ _ _ _ => pe_op op_modN (pe_op op_add (pe_op op_shr (pv 0) (pe_op op_mul pe_int (pe_op op_modN (pv 1) pe_int))) (pv 1)) pe_int))), ?_⟩
    refine ⟨64, rfl, by decide, by decide, fun D hD => ?_⟩
    refine lc_it (walk_range (lo := 0) (n := 64)) (fun i H' => H' D = some (.lst ((vN (pd y)).take i)) ∧ Keep H H' []) ⟨upd_same, Keep.new hD⟩ (fun _ _ _ _ => trivial) ?_ ?_
    · rintro i x H0 H' hi ⟨hl, kp⟩ ⟨rfl, rfl⟩
      refine ⟨rfl, ?_⟩
      refine yes_of ?_
      have e8 : (0 : Int) ≤ 8 * ((0 + (i : Int)).fmod 8) := by
        rw [Int.zero_add, Int.fmod_eq_emod_of_nonneg _ (by decide)]
        omega
      refine ⟨_, rfl, _, rfl, _, _, rfl, rfl, (by show (8 : Int) ≠ 0; decide), _, _, rfl, rfl, .inl ⟨by decide, by decide⟩, _, _, rfl, rfl, e8, _, rfl, _, _, rfl, rfl, _, _, rfl, rfl, (by show (256 : Int) ≠ 0; decide), _, hl, ?_, ?_, ?_⟩
      · rw [List.length_take]
        exact Nat.lt_of_le_of_lt (Nat.min_le_left _ _) (small1000 (by omega))
      · show upd H' D (.lst ((vN (pd y)).take i ++ [V.int (((y : Int) / 2 ^ (8 * ((0 + (i : Int)).fmod 8)).toNat + (0 + (i : Int))).fmod 256)])) D = _
        rw [upd_same, Int.zero_add, pad_py, pd_step y hi]
      · exact kp.trans Keep.put fun p hp => .inr (by rw [List.mem_singleton.mp hp]; exact hD)
    · rintro H' ⟨hl, kp⟩
      refine q H' D hD ?_ kp
      rw [hl, List.take_of_length_le (by rw [vN_len]; unfold pd; rw [List.length_map, List.length_range]; exact Nat.le_refl _)]
theorem xr_len (xs ys : List Nat) : (xr xs ys).length = min xs.length ys.length := List.length_zipWith
theorem xr_step {xs ys : List Nat} {i a b : Nat} (h1 : xs[i]? = some a) (h2 : ys[i]? = some b) : (vN (xr xs ys)).take (i + 1) = (vN (xr xs ys)).take i ++ [V.int ((a ^^^ b : Nat) : Int)] := by
  have e : (xr xs ys)[i]? = some (a ^^^ b) := by
    unfold xr
    rw [List.getElem?_zipWith, h1, h2]
  rw [List.take_succ, vN_get e]
  rfl
theorem xor_py (a b : Nat) : Builtin.bitXor (a : Int) (b : Int) = ((a ^^^ b : Nat) : Int) := by
  rw [Bits.bitXor_pp (by omega) (by omega)]
  rfl
theorem scXor : FnScope ["some", "others", "one", "other"] ["some", "others"] (defScope sXor) := ⟨rfl, rfl, rfl, by decide +kernel, rfl, by decide +kernel, by decide +kernel⟩
theorem ok_xor (F : Fun K "xor_bytes" "xor_bytes" sXor f fd) (mZ : mg "zip" = none) : FnOk P' w K mg base CX0 1 f fd ["some", "others"] (spXor K) := by
  refine F.ok scXor (fun vs H Q E h => ?_) (fun cdv A outer s H vs Q E hr h => ?_)
  · obtain ⟨a, b, xs, ys, rfl, _⟩ := h
    rfl
  · obtain ⟨a, b, xs, ys, rfl, hA, hB, hl, q⟩ := h
    refine ⟨_, pss_one (ps_ret (pe_lc (own := [("one", 2), ("other", 3)]) (g := gTup K 2 (gCons (gName 2) (gCons (gName 3) gNil))) (tt := tYes) rfl scXor.nd (pi_zip (by rfl) mZ (pa_cons (pv 0) (pa_cons (pv 1) pa_nil))) (blkOk_by (own := [("one", 2), ("other", 3)]) (N := ["some", "others", "one", "other"]) (sc := defScope sXor) (by decide +kernel))
      (fun _ _ _ _ _ => pg_tup rfl (pgs_cons (pg_name (i := 2) scXor.nd rfl (Or.inl rfl)) (pgs_cons (pg_name (i := 3) scXor.nd rfl (Or.inl rfl)) pgs_nil))) (fun _ _ _ _ _ => pts_nil)
      (fun _ _ _ _ _ => pe_op op_xor (pv 2) (pv 3)))), ?_⟩
    refine ⟨_, rfl, _, rfl, a, b, vN xs, vN ys, rfl, hA, hB, fun D hD => ?_⟩
    refine lc_it (walk_zip (K := K) (a := a) (b := b) (xs := vN xs) (ys := vN ys) rfl) (fun i H' => H' D = some (.lst ((vN (xr xs ys)).take i)) ∧ Keep H H' []) ⟨upd_same, Keep.new hD⟩
      (fun i H' _ p => ⟨p.2.seq hA fun _ hp => (by cases hp), p.2.seq hB fun _ hp => (by cases hp)⟩) ?_ ?_
    · rintro i x H0 H' hi ⟨hl0, kp⟩ ⟨T, x1, x2, rfl, nT, rfl, h1, h2⟩
      obtain ⟨a1, ha1, rfl⟩ := vN_at h1
      obtain ⟨b1, hb1, rfl⟩ := vN_at h2
      have nTD : D ≠ T := fun e => by
        rw [← e, hl0] at nT
        cases nT
      refine ⟨T, _, rfl, SqT.of upd_same, rfl, ?_⟩
      refine ⟨_, _, rfl, ?_⟩
      refine ⟨_, _, rfl, rfl, rfl, ?_⟩
      refine yes_of ?_
      refine ⟨_, rfl, _, rfl, _, _, rfl, rfl, _, by rw [upd_ne nTD]; exact hl0, ?_, ?_, ?_⟩
      · rw [List.length_take, vN_len, xr_len]
        exact small1000 (by omega)
      · show upd _ D (.lst ((vN (xr xs ys)).take i ++ [V.int (Builtin.bitXor (a1 : Int) (b1 : Int))])) D = _
        rw [upd_same, xor_py, xr_step ha1 hb1]
      · exact (kp.trans (Keep.new (ex := []) nT) fun _ hp => by cases hp).trans Keep.put fun p hp => .inr (by rw [List.mem_singleton.mp hp]; exact hD)
    · rintro H' ⟨hl0, kp⟩
      refine q H' D hD ?_ kp
      rw [hl0, List.take_of_length_le (by rw [vN_len, vN_len, vN_len, xr_len]; exact Nat.le_refl _)]
end
end Ten

set_option Elab.async false
set_option linter.all false
set_option maxRecDepth 100000
set_option maxHeartbeats 4000000
namespace Ten
open PySem PySem.Spec PyProof.Rows L2
open Ks191Neutral (S)
/-! ### the asker -/
theorem AskAt.keep {C : Addr} {H H' : Hp} {a la : Addr} {n : Nat} {l : List Int} {ex : List Addr} (h : AskAt C H a la n l) (k : Keep H H' ex) (h1 : a ∉ ex) (h2 : la ∉ ex) : AskAt C H' a la n l := by
  obtain ⟨⟨dx, e⟩, f⟩ := h
  exact ⟨⟨dx, k _ _ e h1⟩, k _ _ f h2⟩
theorem AskAt.ne {C : Addr} {H : Hp} {a la : Addr} {n : Nat} {l : List Int} (h : AskAt C H a la n l) : a ≠ la := by
  obtain ⟨⟨dx, e⟩, f⟩ := h
  exact ne_of e f (by intro z; cases z)
structure TxtA (K : PySem.W.Frag) (C : Addr) : Prop where
  cl : Cls K C
  nHow : NoAttr K C "how_many"
  nAsked : NoAttr K C "asked"
def spAInit (C : Addr) : Sp := fun vs H Q _ => ∃ (p dx : Addr), vs = [.ref p] ∧ H p = some (.ins C dx []) ∧ ∀ (H' : Hp) (la : Addr), H la = none → AskAt C H' p la 0 [] → Keep H H' [p] → Q .non H'
def spNote (C : Addr) : Sp := fun vs H Q _ => ∃ (a la ta : Addr) (n : Nat) (l m : List Int), vs = [.ref a, .ref ta] ∧ AskAt C H a la n l ∧ H ta = some (.lst (vI m)) ∧ l.length + m.length ≤ 1000 ∧
  ∀ H' : Hp, AskAt C H' a la (n + 1) (l ++ m) → Keep H H' [a, la] → Q .non H'
def spAskName (C : Addr) : Sp := fun vs H Q _ => ∃ (a la : Addr) (n : Nat) (l : List Int) (y : Nat), vs = [.ref a, .int (y : Int)] ∧ AskAt C H a la n l ∧ l.length ≤ 900 ∧
  ∀ H' : Hp, AskAt C H' a la (n + 1) (l ++ [1, (y : Int)]) → Keep H H' [a, la] → Q (.int (nm y : Int)) H'
def spAskPad (C : Addr) : Sp := fun vs H Q _ => ∃ (a la : Addr) (n : Nat) (l : List Int) (y : Nat), vs = [.ref a, .int (y : Int)] ∧ AskAt C H a la n l ∧ l.length ≤ 900 ∧
  ∀ (H' : Hp) (p : Addr), H p = none → AskAt C H' a la (n + 1) (l ++ [2, (y : Int)]) → H' p = some (.lst (vN (pd y))) → Keep H H' [a, la] → Q (.ref p) H'
def spAskMark (C : Addr) : Sp := fun vs H Q _ => ∃ (a la : Addr) (n : Nat) (l : List Int) (y : Nat), vs = [.ref a, .int (y : Int)] ∧ AskAt C H a la n l ∧ l.length ≤ 900 ∧
  ∀ H' : Hp, AskAt C H' a la (n + 1) (l ++ [3, (y : Int)]) → Keep H H' [a, la] → Q (.int (mk y : Int)) H'
def spAskPass (C : Addr) : Sp := fun vs H Q _ => ∃ (a la : Addr) (n : Nat) (l : List Int) (y : Nat), vs = [.ref a, .int (y : Int)] ∧ AskAt C H a la n l ∧ l.length ≤ 900 ∧
  ∀ H' : Hp, AskAt C H' a la (n + 1) (l ++ [4, (y : Int)]) → Keep H H' [a, la] → Q (.int (ps y : Int)) H'
def spAskRow (K : PySem.W.Frag) (C : Addr) : Sp := fun vs H Q _ => ∃ (a la sa : Addr) (n : Nat) (l : List Int) (row : List Nat), vs = [.ref a, .ref sa] ∧ AskAt C H a la n l ∧ l.length ≤ 900 ∧ SqL K H sa (vN row) ∧ sa ≠ la ∧ row.length = 11 ∧
  ∀ (H' : Hp) (p : Addr), H p = none → AskAt C H' a la (n + 11) (l ++ row.map fun _ => 5) → H' p = some (.lst (vN row)) → Keep H H' [a, la] → Q (.ref p) H'
section
variable {P' : Program} {w : World} {K : PySem.W.Frag} {mg : Str → Option Value} {base : Heap} {f C : Addr} {fd : FuncData}
theorem aF_new (la : Addr) : putF "asked" (.ref la) (putF "how_many" (.int 0) []) = aF 0 la := (put_past (by decide +kernel)).trans rfl
theorem aF_put (n la : Nat) : putF "how_many" (.int ((n : Int) + 1)) (aF n la) = aF (n + 1) la := put_here
theorem scAInit : FnScope ["self"] ["self"] (defScope sAInit) := ⟨rfl, rfl, rfl, by decide +kernel, rfl, by decide +kernel, by decide +kernel⟩
theorem ok_aInit (F : Fun K "__init__" "Asker.__init__" sAInit f fd) (T : TxtA K C) : FnOk P' w K mg base CX0 1 f fd ["self"] (spAInit C) := by
  refine F.ok scAInit (fun vs H Q E h => ?_) (fun cdv A outer s H vs Q E hr h => ?_)
  · obtain ⟨p, dx, rfl, _⟩ := h
    rfl
  · obtain ⟨p, dx, rfl, hp, q⟩ := h
    refine ⟨_, pss_cons (ps_fld (pv 0) pe_int rfl) (pss_one (ps_fld (pv 0) (pe_lst pa_nil) rfl)), ?_⟩
    refine ⟨_, rfl, p, C, dx, [], rfl, hp, T.cl, T.nHow, (by show 0 < 1000; decide), ?_⟩
    refine ⟨Nat.zero_le _, fun la nla => ?_⟩
    have npl : p ≠ la := fun e => by
      rw [← e, upd_same] at nla
      cases nla
    refine ⟨_, rfl, p, C, dx, _, rfl, by rw [upd_ne npl]; exact upd_same, T.cl, T.nAsked, (by show 1 < 1000; decide), ?_⟩
    have hla : H la = none := by
      rw [upd_ne npl.symm] at nla
      exact nla
    refine q _ la hla ⟨⟨dx, ?_⟩, ?_⟩ ?_
    · rw [upd_same, aF_new]
    · rw [upd_ne npl.symm, upd_same]
      rfl
    · exact (((Keep.refl H [p]).store (.inl (by simp))).store (.inr hla)).store (.inl (by simp))
theorem scNote : FnScope ["self", "thing"] ["self", "thing"] (defScope sNote) := ⟨rfl, rfl, rfl, by decide +kernel, rfl, by decide +kernel, by decide +kernel⟩
theorem ok_note (F : Fun K "note" "Asker.note" sNote f fd) (T : TxtA K C) : FnOk P' w K mg base CX0 1 f fd ["self", "thing"] (spNote C) := by
  refine F.ok scNote (fun vs H Q E h => ?_) (fun cdv A outer s H vs Q E hr h => ?_)
  · obtain ⟨a, la, ta, n, l, m, rfl, _⟩ := h
    rfl
  · obtain ⟨a, la, ta, n, l, m, rfl, hA, hT, hl, q⟩ := h
    have nal := hA.ne
    obtain ⟨⟨dx, ha⟩, hla⟩ := hA
    have nta : ta ≠ a := (ne_of ha hT (by intro z; cases z)).symm
    refine ⟨_, pss_cons (ps_fldaug (pv 0) pe_int in_add) (pss_one (ps_expr (pe_bm PySem.F.plainAttrs_list PySem.F.slot_list_extend PySem.F.type_list_extend mt_extend (pe_fld (pv 0) rfl) (pa_cons (pv 1) pa_nil)))), ?_⟩
    refine ⟨_, rfl, a, C, dx, _, _, rfl, ha, T.cl, T.nHow, aF_how n la, _, _, rfl, rfl, dx, _, ha, (by show 2 < 1000; decide), ?_⟩
    rw [aF_put]
    have h1 : upd H a (.ins C dx (aF (n + 1) la)) la = some (.lst (vI l)) := by
      rw [upd_ne nal.symm]
      exact hla
    refine ⟨_, rfl, a, C, dx, _, _, rfl, upd_same, T.cl, T.nAsked, aF_asked _ la, .inl ⟨rfl, _, SqL.of h1⟩, _, rfl, la, ta, _, _, rfl, rfl, h1, by rw [upd_ne nta]; exact hT, ?_, ?_⟩
    · rw [vI_len, vI_len]
      exact Nat.le_of_lt (small1000 hl)
    · refine q _ ⟨⟨dx, ?_⟩, ?_⟩ ?_
      · rw [upd_ne nal, upd_same]
      · rw [upd_same, vI_app]
      · exact ((Keep.refl H [a, la]).store (.inl (by simp))).store (.inl (by simp))
theorem scaskName : FnScope ["self", "number"] ["self", "number"] (defScope sAskName) := ⟨rfl, rfl, rfl, by decide +kernel, rfl, by decide +kernel, by decide +kernel⟩
theorem ok_askName (F : Fun K "ask_name" "Asker.ask_name" sAskName f fd) (T : TxtA K C) (MN : MethOk P' w K mg base C "note" 1 ["self", "thing"] (spNote C)) (D : DefOk P' w K mg base "name_of" 1 ["number"] spNameOf) : FnOk P' w K mg base CX0 2 f fd ["self", "number"] (spAskName C) := by
  refine F.ok scaskName (fun vs H Q E h => ?_) (fun cdv A outer s H vs Q E hr h => ?_)
  · obtain ⟨a, la, n, l, y, rfl, _⟩ := h
    rfl
  · obtain ⟨a, la, n, l, y, rfl, hA, hl, q⟩ := h
    refine ⟨_, pss_cons (ps_expr (pe_methD (pv 0) T.cl MN hr (pa_cons (pe_lst (pa_cons pe_int (pa_cons (pv 1) pa_nil))) pa_nil))) (pss_one (ps_ret (pe_callD D hr (by rfl) (pa_cons (pv 1) pa_nil)))), ?_⟩
    obtain ⟨dx, ha⟩ := hA.at_
    refine ⟨_, rfl, a, dx, _, rfl, ha, aF_no n la (by decide +kernel), _, rfl, (by show 2 ≤ sizeLine; decide), fun t nt => ?_⟩
    have k1 : Keep H (upd H t (.lst (vI [1, (y : Int)]))) [] := Keep.new nt
    refine ⟨a, la, t, n, l, [1, (y : Int)], rfl, hA.keep k1 (by simp) (by simp), upd_same, (by show l.length + 2 ≤ 1000; omega), fun H2 hA2 k2 => ?_⟩
    have k3 : Keep H H2 [a, la] := (Keep.mono k1 fun _ hp => by cases hp).trans k2 fun p hp => .inl hp
    exact ⟨_, rfl, y, rfl, q H2 hA2 k3⟩
theorem scaskMark : FnScope ["self", "y"] ["self", "y"] (defScope sAskMark) := ⟨rfl, rfl, rfl, by decide +kernel, rfl, by decide +kernel, by decide +kernel⟩
theorem ok_askMark (F : Fun K "ask_mark" "Asker.ask_mark" sAskMark f fd) (T : TxtA K C) (MN : MethOk P' w K mg base C "note" 1 ["self", "thing"] (spNote C)) (D : DefOk P' w K mg base "mark_of" 1 ["y"] spMarkOf) : FnOk P' w K mg base CX0 2 f fd ["self", "y"] (spAskMark C) := by
  refine F.ok scaskMark (fun vs H Q E h => ?_) (fun cdv A outer s H vs Q E hr h => ?_)
  · obtain ⟨a, la, n, l, y, rfl, _⟩ := h
    rfl
  · obtain ⟨a, la, n, l, y, rfl, hA, hl, q⟩ := h
    refine ⟨_, pss_cons (ps_expr (pe_methD (pv 0) T.cl MN hr (pa_cons (pe_lst (pa_cons pe_int (pa_cons (pv 1) pa_nil))) pa_nil))) (pss_one (ps_ret (pe_callD D hr (by rfl) (pa_cons (pv 1) pa_nil)))), ?_⟩
    obtain ⟨dx, ha⟩ := hA.at_
    refine ⟨_, rfl, a, dx, _, rfl, ha, aF_no n la (by decide +kernel), _, rfl, (by show 2 ≤ sizeLine; decide), fun t nt => ?_⟩
    have k1 : Keep H (upd H t (.lst (vI [3, (y : Int)]))) [] := Keep.new nt
    refine ⟨a, la, t, n, l, [3, (y : Int)], rfl, hA.keep k1 (by simp) (by simp), upd_same, (by show l.length + 2 ≤ 1000; omega), fun H2 hA2 k2 => ?_⟩
    have k3 : Keep H H2 [a, la] := (Keep.mono k1 fun _ hp => by cases hp).trans k2 fun p hp => .inl hp
    exact ⟨_, rfl, y, rfl, q H2 hA2 k3⟩
theorem scaskPass : FnScope ["self", "y"] ["self", "y"] (defScope sAskPass) := ⟨rfl, rfl, rfl, by decide +kernel, rfl, by decide +kernel, by decide +kernel⟩
theorem ok_askPass (F : Fun K "ask_pass" "Asker.ask_pass" sAskPass f fd) (T : TxtA K C) (MN : MethOk P' w K mg base C "note" 1 ["self", "thing"] (spNote C)) (D : DefOk P' w K mg base "pass_of" 1 ["y"] spPassOf) : FnOk P' w K mg base CX0 2 f fd ["self", "y"] (spAskPass C) := by
  refine F.ok scaskPass (fun vs H Q E h => ?_) (fun cdv A outer s H vs Q E hr h => ?_)
  · obtain ⟨a, la, n, l, y, rfl, _⟩ := h
    rfl
  · obtain ⟨a, la, n, l, y, rfl, hA, hl, q⟩ := h
    refine ⟨_, pss_cons (ps_expr (pe_methD (pv 0) T.cl MN hr (pa_cons (pe_lst (pa_cons pe_int (pa_cons (pv 1) pa_nil))) pa_nil))) (pss_one (ps_ret (pe_callD D hr (by rfl) (pa_cons (pv 1) pa_nil)))), ?_⟩
    obtain ⟨dx, ha⟩ := hA.at_
    refine ⟨_, rfl, a, dx, _, rfl, ha, aF_no n la (by decide +kernel), _, rfl, (by show 2 ≤ sizeLine; decide), fun t nt => ?_⟩
    have k1 : Keep H (upd H t (.lst (vI [4, (y : Int)]))) [] := Keep.new nt
    refine ⟨a, la, t, n, l, [4, (y : Int)], rfl, hA.keep k1 (by simp) (by simp), upd_same, (by show l.length + 2 ≤ 1000; omega), fun H2 hA2 k2 => ?_⟩
    have k3 : Keep H H2 [a, la] := (Keep.mono k1 fun _ hp => by cases hp).trans k2 fun p hp => .inl hp
    exact ⟨_, rfl, y, rfl, q H2 hA2 k3⟩
theorem AskAt.fresh {C : Addr} {H : Hp} {a la p : Addr} {n : Nat} {l : List Int} (h : AskAt C H a la n l) (hp : H p = none) : p ∉ [a, la] := fun m => by
  obtain ⟨⟨dx, e⟩, f⟩ := h
  rcases List.mem_cons.mp m with q | q
  · rw [q, e] at hp
    cases hp
  · rw [List.mem_singleton.mp q, f] at hp
    cases hp
theorem scAskPad : FnScope ["self", "y"] ["self", "y"] (defScope sAskPad) := ⟨rfl, rfl, rfl, by decide +kernel, rfl, by decide +kernel, by decide +kernel⟩
theorem ok_askPad (F : Fun K "ask_pad" "Asker.ask_pad" sAskPad f fd) (T : TxtA K C) (MN : MethOk P' w K mg base C "note" 1 ["self", "thing"] (spNote C)) (D : DefOk P' w K mg base "pad_of" 1 ["y"] spPadOf) : FnOk P' w K mg base CX0 2 f fd ["self", "y"] (spAskPad C) := by
  refine F.ok scAskPad (fun vs H Q E h => ?_) (fun cdv A outer s H vs Q E hr h => ?_)
  · obtain ⟨a, la, n, l, y, rfl, _⟩ := h
    rfl
  · obtain ⟨a, la, n, l, y, rfl, hA, hl, q⟩ := h
    refine ⟨_, pss_cons (ps_expr (pe_methD (pv 0) T.cl MN hr (pa_cons (pe_lst (pa_cons pe_int (pa_cons (pv 1) pa_nil))) pa_nil))) (pss_one (ps_ret (pe_callD D hr (by rfl) (pa_cons (pv 1) pa_nil)))), ?_⟩
    obtain ⟨dx, ha⟩ := hA.at_
    refine ⟨_, rfl, a, dx, _, rfl, ha, aF_no n la (by decide +kernel), _, rfl, (by show 2 ≤ sizeLine; decide), fun t nt => ?_⟩
    have k1 : Keep H (upd H t (.lst (vI [2, (y : Int)]))) [] := Keep.new nt
    refine ⟨a, la, t, n, l, [2, (y : Int)], rfl, hA.keep k1 (by simp) (by simp), upd_same, (by show l.length + 2 ≤ 1000; omega), fun H2 hA2 k2 => ?_⟩
    have k3 : Keep H H2 [a, la] := (Keep.mono k1 fun _ hp => by cases hp).trans k2 fun p hp => .inl hp
    refine ⟨_, rfl, y, rfl, fun H3 p np hp k4 => ?_⟩
    exact q H3 p (k3.free np (hA2.fresh np)) (hA2.keep k4 (by simp) (by simp)) hp (k3.trans k4 fun _ hp => by cases hp)
theorem row_step {row : List Nat} {i n : Nat} (h : row[i]? = some n) : vN (row.take (i + 1)) = vN (row.take i) ++ [V.int (n : Int)] := by
  rw [List.take_succ, h]
  unfold vN vI nInt Ks191Neutral.ints
  rw [List.map_append, List.map_append]
  rfl
theorem fives {row : List Nat} {i n : Nat} (h : row[i]? = some n) : ((row.take (i + 1)).map fun _ => (5 : Int)) = ((row.take i).map fun _ => (5 : Int)) ++ [5] := by
  rw [List.take_succ, h, List.map_append]
  rfl
theorem scAskRow : FnScope ["self", "script", "row", "i"] ["self", "script"] (defScope sAskRow) := ⟨rfl, rfl, rfl, by decide +kernel, rfl, by decide +kernel, by decide +kernel⟩
theorem ok_askRow (F : Fun K "ask_row" "Asker.ask_row" sAskRow f fd) (T : TxtA K C) (MN : MethOk P' w K mg base C "note" 1 ["self", "thing"] (spNote C)) (mR : mg "range" = none) (gL : ∃ t, mg "ROW_LENGTH" = some (.int 11 t)) : FnOk P' w K mg base CX0 2 f fd ["self", "script"] (spAskRow K C) := by
  refine F.ok scAskRow (fun vs H Q E h => ?_) (fun cdv A outer s H vs Q E hr h => ?_)
  · obtain ⟨a, la, sa, n, l, row, rfl, _⟩ := h
    rfl
  · obtain ⟨a, la, sa, n, l, row, rfl, hA, hl, hS, nsa, hlen, q⟩ := h
    refine ⟨_, pss_cons (ps_set (i := 2) scAskRow.nd rfl (Or.inl rfl) (pe_lst pa_nil))
      (pss_cons (ps_for PassesOwn.never rfl (pi_range1 (by rfl) mR (pa_cons (pe_gl (by rfl) gL) pa_nil)) (pg_name (i := 3) scAskRow.nd rfl (Or.inl rfl))
        (pss_cons (ps_expr (pe_methD (pv 0) T.cl MN hr (pa_cons (pe_lst (pa_cons pe_int pa_nil)) pa_nil)))
          (pss_one (ps_expr (pe_bm PySem.F.plainAttrs_list PySem.F.slot_list_append PySem.F.type_list_append mt_append (pv 2) (pa_cons (pe_ix ix_list (pv 1) (pv 3) (fun _ _ => rfl)) pa_nil))))))
      (pss_one (ps_ret (pv 2)))), ?_⟩
    refine ⟨Nat.zero_le _, fun r nr => ?_⟩
    refine ⟨11, rfl, by decide, by decide, ?_⟩
    have hA0 : AskAt C (upd H r (.lst [])) a la n l := hA.keep (Keep.new (ex := []) nr) (by simp) (by simp)
    have nra : r ∉ [a, la] := hA.fresh nr
    refine for_it (walk_range (lo := 0) (n := 11)) (fun i σ H' => ∃ v : Option V, σ = [some (.ref a), some (.ref sa), some (.ref r), v] ∧ AskAt C H' a la (n + i) (l ++ (row.take i).map fun _ => 5) ∧ H' r = some (.lst (vN (row.take i))) ∧ Keep H H' [a, la])
      ⟨none, rfl, ?_, upd_same, Keep.new nr⟩ (fun _ _ _ _ _ => trivial) ?_ ?_
    · rw [List.take_zero, List.map_nil, List.append_nil]
      exact hA0
    · rintro i x σ H0 H' hi ⟨v, rfl, hA1, h1, k1⟩ ⟨rfl, rfl⟩
      obtain ⟨z, hz⟩ : ∃ z, row[i]? = some z := ⟨_, List.getElem?_eq_getElem (by omega)⟩
      obtain ⟨dx, ha⟩ := hA1.at_
      refine ⟨_, rfl, a, dx, _, rfl, ha, aF_no _ la (by decide +kernel), (by show 1 ≤ sizeLine; decide), fun t nt => ?_⟩
      have hA2 : AskAt C (upd H' t (.lst [V.int 5])) a la (n + i) (l ++ (row.take i).map fun _ => 5) := hA1.keep (Keep.new (ex := []) nt) (by simp) (by simp)
      refine ⟨a, la, t, _, _, [5], rfl, hA2, upd_same, ?_, fun H3 hA3 k3 => ?_⟩
      · rw [List.length_append, List.length_map, List.length_take]
        show l.length + min i row.length + 1 ≤ 1000
        omega
      have k2 : Keep H (upd H' t (.lst [V.int 5])) [a, la] := k1.trans (Keep.new (ex := []) nt) fun _ hp => by cases hp
      have k4 : Keep H H3 [a, la] := k2.trans k3 fun p hp => .inl hp
      have hr3 : H3 r = some (.lst (vN (row.take i))) := k3 r _ (by rw [upd_ne (ne_of_none h1 nt)]; exact h1) nra
      refine ⟨_, rfl, .inl ⟨rfl, _, SqL.of hr3⟩, _, rfl, _, rfl, sa, _, _, V.int (z : Int), rfl, rfl, k4.seq hS ?_, at_of (j := i) (by omega) (vN_get hz), r, _, _, rfl, rfl, hr3, ?_, ?_⟩
      · intro p hp
        rcases List.mem_cons.mp hp with e | e
        · obtain ⟨dx', e'⟩ := hA.at_
          exact .inr (.inl ⟨_, _, _, by rw [e]; exact e'⟩)
        · exact .inr (.inr (by rw [List.mem_singleton.mp e]; exact nsa))
      · rw [vN_len, List.length_take]
        exact small1000 (by omega)
      · have n1 : r ≠ a := fun e => nra (by rw [e]; simp)
        have n2 : r ≠ la := fun e => nra (by rw [e]; simp)
        refine ⟨some (.int (0 + (i : Nat))), rfl, ?_, ?_, k4.store (.inr nr)⟩
        · rw [fives hz, ← List.append_assoc]
          exact hA3.keep (Keep.put (o := .lst _)) (by simpa using n1.symm) (by simpa using n2.symm)
        · rw [upd_same, row_step hz]
    · rintro σ H' ⟨v, rfl, hA1, h1, k1⟩
      have e : row.take 11 = row := List.take_of_length_le (by omega)
      rw [e] at hA1 h1
      exact ⟨_, rfl, q H' r nr hA1 h1 k1⟩
end
end Ten

set_option Elab.async false
set_option linter.all false
set_option maxRecDepth 100000
set_option maxHeartbeats 4000000
namespace Ten
open PySem PySem.Spec PyProof.Rows L2
open Ks191Neutral (S)
/-! ### the box and the counter -/
theorem KeptAt.keep {C : Addr} {H H' : Hp} {a ls lr : Addr} {s : S} {ex : List Addr} (h : KeptAt C H a ls lr s) (k : Keep H H' ex) (h1 : a ∉ ex) (h2 : ls ∉ ex) (h3 : lr ∉ ex) : KeptAt C H' a ls lr s := by
  obtain ⟨⟨dx, e⟩, f, g⟩ := h
  exact ⟨⟨dx, k _ _ e h1⟩, k _ _ f h2, k _ _ g h3⟩
theorem upd2 {H : Hp} {a : Addr} {o o' : HO} : upd (upd H a o) a o' = upd H a o' := by
  funext b
  by_cases e : b = a
  · rw [e, upd_same, upd_same]
  · rw [upd_ne e, upd_ne e, upd_ne e]
/-- the object's fields written anew -/
theorem KeptAt.put {C C' : Addr} {H : Hp} {a dx dx' ls lr : Addr} {fs : List (Str × V)} {s : S} (h : H a = some (.ins C' dx' fs)) (e1 : H ls = some (.lst (vN s.1.sealed_))) (e2 : H lr = some (.lst (vN s.2.row))) : KeptAt C (upd H a (.ins C dx (kF s ls lr))) a ls lr s := by
  refine ⟨⟨dx, upd_same⟩, ?_, ?_⟩
  · rw [upd_ne (ne_of h e1 (by intro z; cases z)).symm]
    exact e1
  · rw [upd_ne (ne_of h e2 (by intro z; cases z)).symm]
    exact e2
structure TxtK (K : PySem.W.Frag) (C : Addr) : Prop where
  cl : Cls K C
  nMark : NoAttr K C "mark"
  nSealed : NoAttr K C "sealed"
  nPass : NoAttr K C "pass_told"
  nTries : NoAttr K C "tries"
  nState : NoAttr K C "state"
  nRow : NoAttr K C "row"
def spKInit (C : Addr) : Sp := fun vs H Q _ => ∃ (p dx : Addr), vs = [.ref p] ∧ H p = some (.ins C dx []) ∧ ∀ (H' : Hp) (ls lr : Addr), H ls = none → H lr = none → KeptAt C H' p ls lr Ks191Neutral.start → Keep H H' [p] → Q .non H'
def spSpoilt (C : Addr) : Sp := fun vs H Q _ => ∃ (a ls lr : Addr) (s : S), vs = [.ref a] ∧ KeptAt C H a ls lr s ∧ Q (.bl (!s.2.fit)) H
theorem put_new {f : Str} {v : V} : ∀ {l : List (Str × V)}, ((l.map Prod.fst).all fun g => !(g == f)) = true → putF f v l = l ++ [(f, v)]
  | [], _ => rfl
  | (g, x) :: r, h => by
    have h' : ((!(g == f)) && (r.map Prod.fst).all fun g => !(g == f)) = true := h
    rw [Bool.and_eq_true] at h'
    have n : ¬ g = f := fun e => by
      have q := h'.1
      rw [e, beq_self_eq_true] at q
      cases q
    rw [put_past n, put_new h'.2]
    rfl
section
variable {P' : Program} {w : World} {K : PySem.W.Frag} {mg : Str → Option Value} {base : Heap} {f C : Addr} {fd : FuncData}
theorem Keep.fresh1 {H H1 : Hp} {p t : Addr} {o : HO} (k : Keep H H1 [p]) (hp : H1 p = some o) (n : H1 t = none) : H t = none ∧ p ≠ t := by
  have e : p ≠ t := ne_of_none hp n
  exact ⟨k.free n (fun m => e (List.mem_singleton.mp m).symm), e⟩
theorem k_new1 (v1 : V) : putF "mark" v1 ([] : List (Str × V)) = ([("mark", v1)] : List (Str × V)) := put_new (f := "mark") (l := ([] : List (Str × V))) (show (([] : List Str).all fun g => !(g == ("mark" : Str))) = true by decide +kernel)
theorem k_new2 (v1 v2 : V) : putF "sealed" v2 ([("mark", v1)] : List (Str × V)) = ([("mark", v1), ("sealed", v2)] : List (Str × V)) := put_new (f := "sealed") (l := ([("mark", v1)] : List (Str × V))) (show ((["mark"] : List Str).all fun g => !(g == ("sealed" : Str))) = true by decide +kernel)
theorem k_new3 (v1 v2 v3 : V) : putF "pass_told" v3 ([("mark", v1), ("sealed", v2)] : List (Str × V)) = ([("mark", v1), ("sealed", v2), ("pass_told", v3)] : List (Str × V)) := put_new (f := "pass_told") (l := ([("mark", v1), ("sealed", v2)] : List (Str × V))) (show ((["mark", "sealed"] : List Str).all fun g => !(g == ("pass_told" : Str))) = true by decide +kernel)
theorem k_new4 (v1 v2 v3 v4 : V) : putF "tries" v4 ([("mark", v1), ("sealed", v2), ("pass_told", v3)] : List (Str × V)) = ([("mark", v1), ("sealed", v2), ("pass_told", v3), ("tries", v4)] : List (Str × V)) := put_new (f := "tries") (l := ([("mark", v1), ("sealed", v2), ("pass_told", v3)] : List (Str × V))) (show ((["mark", "sealed", "pass_told"] : List Str).all fun g => !(g == ("tries" : Str))) = true by decide +kernel)
theorem k_new5 (v1 v2 v3 v4 v5 : V) : putF "state" v5 ([("mark", v1), ("sealed", v2), ("pass_told", v3), ("tries", v4)] : List (Str × V)) = ([("mark", v1), ("sealed", v2), ("pass_told", v3), ("tries", v4), ("state", v5)] : List (Str × V)) := put_new (f := "state") (l := ([("mark", v1), ("sealed", v2), ("pass_told", v3), ("tries", v4)] : List (Str × V))) (show ((["mark", "sealed", "pass_told", "tries"] : List Str).all fun g => !(g == ("state" : Str))) = true by decide +kernel)
theorem k_new6 (v1 v2 v3 v4 v5 v6 : V) : putF "row" v6 ([("mark", v1), ("sealed", v2), ("pass_told", v3), ("tries", v4), ("state", v5)] : List (Str × V)) = ([("mark", v1), ("sealed", v2), ("pass_told", v3), ("tries", v4), ("state", v5), ("row", v6)] : List (Str × V)) := put_new (f := "row") (l := ([("mark", v1), ("sealed", v2), ("pass_told", v3), ("tries", v4), ("state", v5)] : List (Str × V))) (show ((["mark", "sealed", "pass_told", "tries", "state"] : List Str).all fun g => !(g == ("row" : Str))) = true by decide +kernel)
theorem scKInit : FnScope ["self"] ["self"] (defScope sKInit) := ⟨rfl, rfl, rfl, by decide +kernel, rfl, by decide +kernel, by decide +kernel⟩
theorem ok_kInit (F : Fun K "__init__" "Kept.__init__" sKInit f fd) (T : TxtK K C) (gL : ∃ t, mg "SEALED_LENGTH" = some (.int 64 t)) (gR : ∃ t, mg "ROW_LENGTH" = some (.int 11 t)) (gN : ∃ t, mg "NOBODY" = some (.int 0 t)) : FnOk P' w K mg base CX0 1 f fd ["self"] (spKInit C) := by
  refine F.ok scKInit (fun vs H Q E h => ?_) (fun cdv A outer s H vs Q E hr h => ?_)
  · obtain ⟨p, dx, rfl, _⟩ := h
    rfl
  · obtain ⟨p, dx, rfl, hp, q⟩ := h
    refine ⟨_, pss_cons (ps_fld (pv 0) pe_int rfl) (pss_cons (ps_fld (pv 0) (pe_op op_rep (pe_lst (pa_cons pe_int pa_nil)) (pe_gl (by rfl) gL)) rfl)
      (pss_cons (ps_fld (pv 0) pe_int rfl) (pss_cons (ps_fld (pv 0) pe_int rfl) (pss_cons (ps_fld (pv 0) (pe_gl (by rfl) gN) rfl)
        (pss_one (ps_fld (pv 0) (pe_op op_rep (pe_lst (pa_cons pe_int pa_nil)) (pe_gl (by rfl) gR)) rfl)))))), ?_⟩
    refine ⟨_, rfl, p, C, dx, [], rfl, hp, T.cl, T.nMark, (by show 0 < 1000; decide), ?_⟩
    rw [k_new1]
    have k1 : Keep H _ [p] := (Keep.refl H [p]).store (p := p) (o := .ins C dx [("mark", .int 0)]) (.inl (by simp))
    have p1 : upd H p (.ins C dx [("mark", .int 0)]) p = some (.ins C dx [("mark", .int 0)]) := upd_same
    refine ⟨(by show 1 ≤ sizeLine; decide), fun t1 n1 => ?_⟩
    obtain ⟨g1, e1⟩ := k1.fresh1 p1 n1
    have k2 := k1.store (o := .lst [.int 0]) (.inr g1)
    refine ⟨t1, 64, _, rfl, rfl, upd_same, by decide, by decide, (by show 1 * 64 ≤ sizeLine; decide), fun ls n2 => ?_⟩
    have p2 : upd (upd H p (.ins C dx [("mark", .int 0)])) t1 (.lst [.int 0]) p = some (.ins C dx [("mark", .int 0)]) := by
      rw [upd_ne e1]
      exact p1
    obtain ⟨g2, e2⟩ := k2.fresh1 p2 n2
    have k3 := k2.store (o := .lst (List.replicate (64 : Int).toNat [V.int 0]).flatten) (.inr g2)
    generalize e3 : upd (upd (upd H p (.ins C dx [("mark", .int 0)])) t1 (.lst [.int 0])) ls (.lst (List.replicate (64 : Int).toNat [V.int 0]).flatten) = H3 at k3
    have p3 : H3 p = some (.ins C dx [("mark", .int 0)]) := by
      rw [← e3, upd_ne e2]
      exact p2
    have l3 : H3 ls = some (.lst (vN (List.replicate 64 0))) := by
      rw [← e3, upd_same]
      rfl
    clear e3
    refine ⟨_, rfl, p, C, dx, _, rfl, p3, T.cl, T.nSealed, (by show 1 < 1000; decide), ?_⟩
    rw [k_new2]
    refine ⟨_, rfl, p, C, dx, _, rfl, upd_same, T.cl, T.nPass, (by show 2 < 1000; decide), ?_⟩
    rw [k_new3]
    refine ⟨_, rfl, p, C, dx, _, rfl, upd_same, T.cl, T.nTries, (by show 3 < 1000; decide), ?_⟩
    rw [k_new4]
    refine ⟨_, rfl, p, C, dx, _, rfl, upd_same, T.cl, T.nState, (by show 4 < 1000; decide), ?_⟩
    rw [k_new5]
    have k4 := (((k3.store (p := p) (o := .ins C dx [("mark", .int 0), ("sealed", .ref ls)]) (.inl (by simp))).store (p := p) (o := .ins C dx [("mark", .int 0), ("sealed", .ref ls), ("pass_told", .int 0)]) (.inl (by simp))).store
      (p := p) (o := .ins C dx [("mark", .int 0), ("sealed", .ref ls), ("pass_told", .int 0), ("tries", .int 0)]) (.inl (by simp))).store (p := p) (o := .ins C dx [("mark", .int 0), ("sealed", .ref ls), ("pass_told", .int 0), ("tries", .int 0), ("state", .int 0)]) (.inl (by simp))
    generalize e4 : upd (upd (upd (upd H3 p (.ins C dx [("mark", .int 0), ("sealed", .ref ls)])) p (.ins C dx [("mark", .int 0), ("sealed", .ref ls), ("pass_told", .int 0)])) p (.ins C dx [("mark", .int 0), ("sealed", .ref ls), ("pass_told", .int 0), ("tries", .int 0)])) p
      (.ins C dx [("mark", .int 0), ("sealed", .ref ls), ("pass_told", .int 0), ("tries", .int 0), ("state", .int 0)]) = H4 at k4 ⊢
    have p4 : H4 p = some (.ins C dx [("mark", .int 0), ("sealed", .ref ls), ("pass_told", .int 0), ("tries", .int 0), ("state", .int 0)]) := by
      rw [← e4]
      exact upd_same
    have l4 : H4 ls = some (.lst (vN (List.replicate 64 0))) := by
      rw [← e4, upd_ne e2.symm, upd_ne e2.symm, upd_ne e2.symm, upd_ne e2.symm]
      exact l3
    clear e4
    refine ⟨(by show 1 ≤ sizeLine; decide), fun t2 n4 => ?_⟩
    obtain ⟨g4, e4⟩ := k4.fresh1 p4 n4
    have f4 : ls ≠ t2 := ne_of_none l4 n4
    have k5 := k4.store (o := .lst [.int 0]) (.inr g4)
    have p5 : upd H4 t2 (.lst [.int 0]) p = some (.ins C dx [("mark", .int 0), ("sealed", .ref ls), ("pass_told", .int 0), ("tries", .int 0), ("state", .int 0)]) := by
      rw [upd_ne e4]
      exact p4
    have l5 : upd H4 t2 (.lst [.int 0]) ls = some (.lst (vN (List.replicate 64 0))) := by
      rw [upd_ne f4]
      exact l4
    refine ⟨t2, 11, _, rfl, rfl, upd_same, by decide, by decide, (by show 1 * 11 ≤ sizeLine; decide), fun lr n5 => ?_⟩
    obtain ⟨g5, e5⟩ := k5.fresh1 p5 n5
    have f5 : ls ≠ lr := ne_of_none l5 n5
    refine ⟨_, rfl, p, C, dx, _, rfl, (by rw [upd_ne e5]; exact p5), T.cl, T.nRow, (by show 5 < 1000; decide), ?_⟩
    rw [k_new6]
    refine q _ ls lr g2 g5 ⟨⟨dx, upd_same⟩, ?_, ?_⟩ ((k5.store (.inr g5)).store (.inl (by simp)))
    · rw [upd_ne e2.symm, upd_ne f5]
      exact l5
    · rw [upd_ne e5.symm, upd_same]
      rfl
theorem scSpoilt : FnScope ["kept", "number"] ["kept"] (defScope sSpoilt) := ⟨rfl, rfl, rfl, by decide +kernel, rfl, by decide +kernel, by decide +kernel⟩
theorem ok_spoilt (F : Fun K "is_spoilt" "is_spoilt" sSpoilt f fd) (T : TxtK K C) (gL : ∃ t, mg "LET_GO" = some (.int 2 t)) (gM : ∃ t, mg "MOST_TRIES" = some (.int 10 t)) (gP : ∃ t, mg "P" = some (.int 2305843009213693951 t)) : FnOk P' w K mg base CX0 1 f fd ["kept"] (spSpoilt C) := by
  refine F.ok scSpoilt (fun vs H Q E h => ?_) (fun cdv A outer s H vs Q E hr h => ?_)
  · obtain ⟨a, ls, lr, st, rfl, _⟩ := h
    rfl
  · obtain ⟨a, ls, lr, st, rfl, ⟨⟨dx, ha⟩, hls, hlr⟩, q⟩ := h
    refine ⟨_, pss_cons (ps_if (PW.pt (pw_or (pt_cmpR op_gt (pe_fld (pv 0) rfl) (pe_gl (by rfl) gL) (nomark _)) (pw_or1 (pt_cmpR op_gt (pe_fld (pv 0) rfl) (pe_gl (by rfl) gM) (nomark _))))) (pss_one (ps_ret pe_bl)) pss_nil)
      (pss_cons (ps_for PassesOwn.never rfl (pi_list (pe_fld (pv 0) rfl)) (pg_name (i := 1) scSpoilt.nd rfl (Or.inl rfl))
        (pss_one (ps_if (pt_cmpR op_ge (pv 1) (pe_gl (by rfl) gP) (nomark _)) (pss_one (ps_ret pe_bl)) pss_nil)))
      (pss_one (ps_ret pe_bl))), ?_⟩
    have yes : st.2.fit = false → Q (.bl true) H := fun e => by
      rw [e] at q
      exact q
    refine ⟨_, rfl, a, C, dx, _, _, rfl, ha, T.cl, T.nState, kF_state st ls lr, _, _, rfl, rfl, _, rfl, ?_⟩
    by_cases c1 : (2 : Int) < (st.2.state : Int)
    · refine if_t (decide_eq_true c1) ?_
      exact if_t rfl (yes (not_fit (.inl (by omega))))
    refine if_f (decide_eq_false c1) ?_
    refine ⟨_, rfl, a, C, dx, _, _, rfl, ha, T.cl, T.nTries, kF_tries st ls lr, _, _, rfl, rfl, _, rfl, ?_⟩
    by_cases c2 : (10 : Int) < (st.2.tries : Int)
    · exact if_t (decide_eq_true c2) (yes (not_fit (.inr (.inl (by omega)))))
    refine if_f (decide_eq_false c2) ?_
    refine ⟨_, rfl, a, C, dx, _, _, rfl, ha, T.cl, T.nRow, kF_row st ls lr, lr, rfl, ⟨_, SqL.of hlr⟩, ?_⟩
    refine for_list (K := K) (a := lr) (xs := vN st.2.row) (fun i σ H' => H' = H ∧ (∀ j v, j < i → st.2.row[j]? = some v → v < P) ∧ ∃ v : Option V, σ = [some (.ref a), v]) ⟨rfl, fun _ _ h => absurd h (Nat.not_lt_zero _), none, rfl⟩ (fun i σ H' _ p => by rw [p.1]; exact SqL.of hlr) ?_ ?_
    · rintro i x σ H' hi ⟨rfl, hb, v, rfl⟩
      obtain ⟨n, hn, rfl⟩ := vN_at hi
      refine ⟨_, rfl, _, _, rfl, rfl, _, rfl, ?_⟩
      by_cases c3 : (2305843009213693951 : Int) ≤ (n : Int)
      · exact if_t (decide_eq_true c3) (yes (not_fit (.inr (.inr ⟨n, List.mem_of_getElem? hn, by have := P_is; omega⟩))))
      · refine if_f (decide_eq_false c3) ?_
        refine ⟨rfl, fun j v hj e => ?_, some (.int (n : Int)), rfl⟩
        by_cases h : j < i
        · exact hb j v h e
        · have e2 : j = i := by omega
          rw [e2, hn] at e
          have := Option.some.inj e
          have := P_is
          omega
    · rintro σ H' ⟨rfl, hb, v, rfl⟩
      have e : st.2.fit = true := (fit_iff _).mpr ⟨by omega, by omega, fun v hv => by
        obtain ⟨j, hj⟩ := List.getElem?_of_mem hv
        exact hb j v (by rw [vN_len]; exact (List.getElem?_eq_some_iff.mp hj).1) hj⟩
      rw [e] at q
      exact q
end
end Ten

set_option Elab.async false
set_option linter.all false
set_option maxRecDepth 100000
set_option maxHeartbeats 4000000
namespace Ten
open PySem PySem.Spec PyProof.Rows L2
open Ks191Neutral (S)
/-! ### the reader -/
theorem ReadAt.keep {C : Addr} {H H' : Hp} {a xa : Addr} {i : Nat} {ex : List Addr} (h : ReadAt C H a xa i) (k : Keep H H' ex) (h1 : a ∉ ex) : ReadAt C H' a xa i := by
  obtain ⟨dx, e⟩ := h
  exact ⟨dx, k _ _ e h1⟩
structure TxtR (K : PySem.W.Frag) (C : Addr) : Prop where
  cl : Cls K C
  nNumbers : NoAttr K C "numbers"
  nAt : NoAttr K C "at"
def spRInit (C : Addr) : Sp := fun vs H Q _ => ∃ (p dx xa : Addr), vs = [.ref p, .ref xa] ∧ H p = some (.ins C dx []) ∧ ∀ H' : Hp, ReadAt C H' p xa 0 → Keep H H' [p] → Q .non H'
def spMore (K : PySem.W.Frag) (C : Addr) : Sp := fun vs H Q _ => ∃ (a xa : Addr) (i : Nat) (xs : List Int), vs = [.ref a] ∧ ReadAt C H a xa i ∧ SqL K H xa (vI xs) ∧ Q (.bl (decide ((i : Int) < (xs.length : Int)))) H
def spNum (K : PySem.W.Frag) (C : Addr) : Sp := fun vs H Q _ => ∃ (a xa : Addr) (i : Nat) (xs : List Int) (z : Int), vs = [.ref a] ∧ ReadAt C H a xa i ∧ SqL K H xa (vI xs) ∧ xs[i]? = some z ∧
  ∀ H' : Hp, ReadAt C H' a xa (i + 1) → Keep H H' [a] → Q (.int z) H'
def spRow (K : PySem.W.Frag) (C : Addr) : Sp := fun vs H Q _ => ∃ (a xa : Addr) (i : Nat) (xs row r : List Int), vs = [.ref a] ∧ ReadAt C H a xa i ∧ SqL K H xa (vI xs) ∧ xs.drop i = (row.length : Int) :: (row ++ r) ∧
  ∀ (H' : Hp) (p : Addr), H p = none → ReadAt C H' a xa (i + 1 + row.length) → H' p = some (.lst (vI row)) → Keep H H' [a] → Q (.ref p) H'
theorem rF_put (xa i j : Nat) (z : Int) (h : (i : Int) + z = (j : Int)) : putF "at" (.int ((i : Int) + z)) (rF xa i) = rF xa j := by
  rw [h]
  exact (put_past (by decide +kernel)).trans rfl
theorem vI_get {l : List Int} {i : Nat} {z : Int} (h : l[i]? = some z) : (vI l)[i]? = some (V.int z) := by
  unfold vI
  rw [List.getElem?_map, h]
  rfl
theorem drop_at {l r : List Int} {i : Nat} {z : Int} (h : l.drop i = z :: r) : l[i]? = some z ∧ l.drop (i + 1) = r := by
  refine ⟨?_, ?_⟩
  · rw [← List.head?_drop, h]
    rfl
  · rw [← List.drop_drop, h]
    rfl
theorem cut_row {l row r : List Int} {i : Nat} (h : l.drop i = row ++ r) : cutV (vI l) (some (i : Int)) (some ((i : Int) + (row.length : Int))) = vI row := by
  have hl : i + row.length ≤ l.length ∨ row = [] := by
    have e := congrArg List.length h
    rw [List.length_drop, List.length_append] at e
    cases row with
    | nil => exact .inr rfl
    | cons a q =>
      rw [List.length_cons] at e ⊢
      exact .inl (by omega)
  have e2 : (i : Int) + (row.length : Int) = ((i + row.length : Nat) : Int) := by omega
  unfold cutV
  rw [e2, HT.sIx_nat, HT.sIx_nat, vI_len]
  rcases hl with hl | rfl
  · rw [Nat.min_eq_left (by omega), Nat.min_eq_left (by omega), show i + row.length - i = row.length by omega]
    unfold vI
    rw [← List.map_drop, ← List.map_take, h, List.take_left]
  · show List.take (min (i + 0) l.length - min i l.length) _ = []
    rw [Nat.add_zero, Nat.sub_self]
    rfl
section
variable {P' : Program} {w : World} {K : PySem.W.Frag} {mg : Str → Option Value} {base : Heap} {f C : Addr} {fd : FuncData}
theorem rF_new (xa : Addr) : putF "at" (.int 0) (putF "numbers" (.ref xa) []) = rF xa 0 := (put_past (by decide +kernel)).trans rfl
theorem scRInit : FnScope ["self", "numbers"] ["self", "numbers"] (defScope sRInit) := ⟨rfl, rfl, rfl, by decide +kernel, rfl, by decide +kernel, by decide +kernel⟩
theorem ok_rInit (F : Fun K "__init__" "Reader.__init__" sRInit f fd) (T : TxtR K C) : FnOk P' w K mg base CX0 1 f fd ["self", "numbers"] (spRInit C) := by
  refine F.ok scRInit (fun vs H Q E h => ?_) (fun cdv A outer s H vs Q E hr h => ?_)
  · obtain ⟨p, dx, xa, rfl, _⟩ := h
    rfl
  · obtain ⟨p, dx, xa, rfl, hp, q⟩ := h
    refine ⟨_, pss_cons (ps_fld (pv 0) (pv 1) rfl) (pss_one (ps_fld (pv 0) pe_int rfl)), ?_⟩
    refine ⟨_, rfl, _, rfl, p, C, dx, [], rfl, hp, T.cl, T.nNumbers, (by show 0 < 1000; decide), ?_⟩
    refine ⟨_, rfl, p, C, dx, _, rfl, upd_same, T.cl, T.nAt, (by show 1 < 1000; decide), ?_⟩
    rw [rF_new]
    exact q _ ⟨dx, upd_same⟩ (((Keep.refl H [p]).store (.inl (by simp))).store (.inl (by simp)))
theorem scMore : FnScope ["self"] ["self"] (defScope sMore) := ⟨rfl, rfl, rfl, by decide +kernel, rfl, by decide +kernel, by decide +kernel⟩
theorem ok_more (F : Fun K "has_more" "Reader.has_more" sMore f fd) (T : TxtR K C) (mL : mg "len" = none) : FnOk P' w K mg base CX0 1 f fd ["self"] (spMore K C) := by
  refine F.ok scMore (fun vs H Q E h => ?_) (fun cdv A outer s H vs Q E hr h => ?_)
  · obtain ⟨a, xa, i, xs, rfl, _⟩ := h
    rfl
  · obtain ⟨a, xa, i, xs, rfl, ⟨dx, ha⟩, hS, q⟩ := h
    refine ⟨_, pss_one (ps_ret (pe_cmpR op_lt (pe_fld (pv 0) rfl) (pe_callB call_len_seq (by rfl) mL PySem.boot_len (pa_cons (pe_fld (pv 0) rfl) pa_nil)) (nomark _))), ?_⟩
    refine ⟨_, rfl, a, C, dx, _, _, rfl, ha, T.cl, T.nAt, rF_at xa i, _, rfl, a, C, dx, _, _, rfl, ha, T.cl, T.nNumbers, rF_numbers xa i, xa, _, rfl, .inl hS, _, _, rfl, rfl, ?_⟩
    rw [vI_len]
    exact q
theorem scNum : FnScope ["self", "number"] ["self"] (defScope sNum) := ⟨rfl, rfl, rfl, by decide +kernel, rfl, by decide +kernel, by decide +kernel⟩
theorem ok_num (F : Fun K "next_number" "Reader.next_number" sNum f fd) (T : TxtR K C) : FnOk P' w K mg base CX0 1 f fd ["self"] (spNum K C) := by
  refine F.ok scNum (fun vs H Q E h => ?_) (fun cdv A outer s H vs Q E hr h => ?_)
  · obtain ⟨a, xa, i, xs, z, rfl, _⟩ := h
    rfl
  · obtain ⟨a, xa, i, xs, z, rfl, ⟨dx, ha⟩, hS, hz, q⟩ := h
    refine ⟨_, pss_cons (ps_set (i := 1) scNum.nd rfl (Or.inl rfl) (pe_ix ix_list (pe_fld (pv 0) rfl) (pe_fld (pv 0) rfl) (fun _ _ => rfl)))
      (pss_cons (ps_fldaug (pv 0) pe_int in_add) (pss_one (ps_ret (pv 1)))), ?_⟩
    refine ⟨_, rfl, a, C, dx, _, _, rfl, ha, T.cl, T.nNumbers, rF_numbers xa i, _, rfl, a, C, dx, _, _, rfl, ha, T.cl, T.nAt, rF_at xa i, xa, _, _, _, rfl, rfl, hS, at_of rfl (vI_get hz), ?_⟩
    refine ⟨_, rfl, a, C, dx, _, _, rfl, ha, T.cl, T.nAt, rF_at xa i, _, _, rfl, rfl, dx, _, ha, (by show 2 < 1000; decide), ?_⟩
    rw [rF_put xa i (i + 1) 1 (by omega)]
    exact ⟨_, rfl, q _ ⟨dx, upd_same⟩ Keep.put⟩
theorem scRow : FnScope ["self", "length", "row"] ["self"] (defScope sRow) := ⟨rfl, rfl, rfl, by decide +kernel, rfl, by decide +kernel, by decide +kernel⟩
theorem ok_row (F : Fun K "next_row" "Reader.next_row" sRow f fd) (T : TxtR K C) (MN : MethOk P' w K mg base C "next_number" 1 ["self"] (spNum K C)) : FnOk P' w K mg base CX0 2 f fd ["self"] (spRow K C) := by
  refine F.ok scRow (fun vs H Q E h => ?_) (fun cdv A outer s H vs Q E hr h => ?_)
  · obtain ⟨a, xa, i, xs, row, r, rfl, _⟩ := h
    rfl
  · obtain ⟨a, xa, i, xs, row, r, rfl, hR, hS, hd, q⟩ := h
    refine ⟨_, pss_cons (ps_set (i := 1) scRow.nd rfl (Or.inl rfl) (pe_methD0 (pv 0) T.cl MN hr))
      (pss_cons (ps_set (i := 2) scRow.nd rfl (Or.inl rfl) (pe_slice sl_list (pe_fld (pv 0) rfl) (po_some (pe_fld (pv 0) rfl)) (po_some (pe_op op_add (pe_fld (pv 0) rfl) (pv 1)))))
      (pss_cons (ps_fldaug (pv 0) (pv 1) in_add) (pss_one (ps_ret (pv 2))))), ?_⟩
    obtain ⟨hz, hd2⟩ := drop_at hd
    obtain ⟨dx, ha⟩ := hR.at_
    refine ⟨_, rfl, a, dx, _, rfl, ha, rF_no xa i (by decide +kernel), a, xa, i, xs, _, rfl, hR, hS, hz, fun H1 hR1 k1 => ?_⟩
    obtain ⟨dx1, ha1⟩ := hR1.at_
    have hS1 : SqL K H1 xa (vI xs) := k1.seq1 hS ha
    refine ⟨_, rfl, a, C, dx1, _, _, rfl, ha1, T.cl, T.nNumbers, rF_numbers xa _, _, rfl, a, C, dx1, _, _, rfl, ha1, T.cl, T.nAt, rF_at xa _, _, rfl, ?_⟩
    refine ⟨_, rfl, a, C, dx1, _, _, rfl, ha1, T.cl, T.nAt, rF_at xa _, _, rfl, _, _, rfl, rfl, _, rfl, xa, _, rfl, hS1, fun p np => ?_⟩
    rw [cut_row hd2]
    have nap : a ≠ p := ne_of_none ha1 np
    have ha2 : upd H1 p (.lst (vI row)) a = some (.ins C dx1 (rF xa (i + 1))) := by
      rw [upd_ne nap]
      exact ha1
    refine ⟨_, rfl, a, C, dx1, _, _, rfl, ha2, T.cl, T.nAt, rF_at xa _, _, rfl, _, _, rfl, rfl, dx1, _, ha2, (by show 2 < 1000; decide), ?_⟩
    rw [rF_put xa (i + 1) (i + 1 + row.length) _ (by omega)]
    have hp : H p = none := k1.free np fun m => nap (List.mem_singleton.mp m).symm
    refine ⟨_, rfl, q _ p hp ⟨dx1, upd_same⟩ ?_ ((k1.store (.inr hp)).store (.inl (by simp)))⟩
    rw [upd_ne nap.symm, upd_same]
end
end Ten

set_option Elab.async false
set_option linter.all false
set_option maxRecDepth 100000
set_option maxHeartbeats 4000000
namespace Ten
open PySem PySem.Spec PyProof.Rows L2
open Ks191Neutral (S)
/-! ### the acts -/
theorem kP_mark (s : S) (ls lr : Addr) (m : Nat) (b : List Nat) : putF "mark" (.int (m : Int)) (kF s ls lr) = kF (Ks191.Box.mk b m, s.2) ls lr := put_here
theorem kP_sealed (s : S) (ls lr : Addr) (l : Addr) (b : List Nat) : putF "sealed" (.ref l) (kF s ls lr) = kF (Ks191.Box.mk b s.1.mark, s.2) l lr := (put_past (by decide +kernel)).trans (congrArg _ put_here)
theorem kP_pass_told (s : S) (ls lr : Addr) (m : Nat) : putF "pass_told" (.int (m : Int)) (kF s ls lr) = kF (s.1, Ks191.Co.mk s.2.row m s.2.tries s.2.state) ls lr := (put_past (by decide +kernel)).trans (congrArg _ ((put_past (by decide +kernel)).trans (congrArg _ put_here)))
theorem kP_tries (s : S) (ls lr : Addr) (m : Nat) : putF "tries" (.int (m : Int)) (kF s ls lr) = kF (s.1, Ks191.Co.mk s.2.row s.2.pass m s.2.state) ls lr := (put_past (by decide +kernel)).trans (congrArg _ ((put_past (by decide +kernel)).trans (congrArg _ ((put_past (by decide +kernel)).trans (congrArg _ put_here)))))
theorem kP_state (s : S) (ls lr : Addr) (m : Nat) : putF "state" (.int (m : Int)) (kF s ls lr) = kF (s.1, Ks191.Co.mk s.2.row s.2.pass s.2.tries m) ls lr := (put_past (by decide +kernel)).trans (congrArg _ ((put_past (by decide +kernel)).trans (congrArg _ ((put_past (by decide +kernel)).trans (congrArg _ ((put_past (by decide +kernel)).trans (congrArg _ put_here)))))))
theorem kP_row (s : S) (ls lr : Addr) (l : Addr) (b : List Nat) : putF "row" (.ref l) (kF s ls lr) = kF (s.1, Ks191.Co.mk b s.2.pass s.2.tries s.2.state) ls l := (put_past (by decide +kernel)).trans (congrArg _ ((put_past (by decide +kernel)).trans (congrArg _ ((put_past (by decide +kernel)).trans (congrArg _ ((put_past (by decide +kernel)).trans (congrArg _ ((put_past (by decide +kernel)).trans (congrArg _ put_here)))))))))
/-- what an act that may ask and may change the object comes to -/
def Post (CK CA : Addr) (H : Hp) (ka aa la ls lr : Addr) (r : R) (Q : VK) : Prop := ∀ (H' : Hp) (p ls' lr' : Addr), KeptAt CK H' ka ls' lr' r.st → AskAt CA H' aa la r.n r.asked → H' p = some (.lst (vI r.told)) → (ls' = ls ∨ H ls' = none) → (lr' = lr ∨ H lr' = none) → Keep H H' [ka, aa, la] → Q (.ref p) H'
def spName (CA : Addr) : Sp := fun vs H Q _ => ∃ (aa la : Addr) (k : Nat), vs = [.ref aa, .int (k : Int)] ∧ AskAt CA H aa la 0 [] ∧
  ∀ (H' : Hp) (p : Addr), AskAt CA H' aa la (mName Ks191Neutral.start k).n (mName Ks191Neutral.start k).asked → H' p = some (.lst (vI (mName Ks191Neutral.start k).told)) → Keep H H' [aa, la] → Q (.ref p) H'
def spSeal (K : PySem.W.Frag) (CK CA : Addr) : Sp := fun vs H Q _ => ∃ (ka aa la ls lr sa : Addr) (s : S) (y : Nat) (sec : List Nat), vs = [.ref ka, .ref aa, .int (y : Int), .ref sa] ∧ KeptAt CK H ka ls lr s ∧ AskAt CA H aa la 0 [] ∧ la ≠ ls ∧ la ≠ lr ∧ SqL K H sa (vN sec) ∧ sa ≠ la ∧ Post CK CA H ka aa la ls lr (mSeal s y sec) Q
def spOpen (CK CA : Addr) : Sp := fun vs H Q _ => ∃ (ka aa la ls lr : Addr) (s : S) (y : Nat), vs = [.ref ka, .ref aa, .int (y : Int)] ∧ KeptAt CK H ka ls lr s ∧ AskAt CA H aa la 0 [] ∧ la ≠ ls ∧ la ≠ lr ∧ Post CK CA H ka aa la ls lr (mOpen s y) Q
def spNew (K : PySem.W.Frag) (CK CA : Addr) : Sp := fun vs H Q _ => ∃ (ka aa la ls lr sa : Addr) (s : S) (x : Nat) (row : List Nat), vs = [.ref ka, .ref aa, .int (x : Int), .ref sa] ∧ KeptAt CK H ka ls lr s ∧ AskAt CA H aa la 0 [] ∧ la ≠ ls ∧ la ≠ lr ∧ SqL K H sa (vN row) ∧ sa ≠ la ∧
  (s.2.fit = true → x < P → s.2.state ≠ 1 → row.length = 11) ∧ Post CK CA H ka aa la ls lr (mNew s x row) Q
def spTry (CK : Addr) : Sp := fun vs H Q _ => ∃ (ka ls lr : Addr) (s : S) (x : Nat), vs = [.ref ka, .int (x : Int)] ∧ KeptAt CK H ka ls lr s ∧
  ∀ (H' : Hp) (p : Addr), KeptAt CK H' ka ls lr (mTry s x).st → H' p = some (.lst (vI (mTry s x).told)) → Keep H H' [ka] → Q (.ref p) H'
theorem KeptAt.apart {CK CA : Addr} {H : Hp} {ka ls lr aa la n : Addr} {s : S} {l : List Int} (h : KeptAt CK H ka ls lr s) (g : AskAt CA H aa la n l) : ka ≠ aa ∧ ka ≠ la ∧ ls ≠ aa ∧ lr ≠ aa := by
  obtain ⟨⟨dx, e⟩, f, f2⟩ := h
  obtain ⟨⟨dy, e2⟩, f3⟩ := g
  exact ⟨ne_of e e2 (by intro z; injection z with z1 z2 z3; exact absurd (congrArg List.length z3) (by show ¬ 6 = 2; decide)), ne_of e f3 (by intro z; cases z), ne_of f e2 (by intro z; cases z), ne_of f2 e2 (by intro z; cases z)⟩
theorem KeptAt.ask {CK CA : Addr} {H H' : Hp} {ka ls lr aa la n : Addr} {s : S} {l : List Int} (h : KeptAt CK H ka ls lr s) (g : AskAt CA H aa la n l) (k : Keep H H' [aa, la]) (n1 : la ≠ ls) (n2 : la ≠ lr) : KeptAt CK H' ka ls lr s := by
  obtain ⟨a1, a2, a3, a4⟩ := h.apart g
  exact h.keep k (by simp [a1, a2]) (by simp [a3, n1.symm]) (by simp [a4, n2.symm])
theorem Keep.seqA {K : PySem.W.Frag} {H H' : Hp} {CA a aa la : Addr} {n : Nat} {l : List Int} {xs : List V} (k : Keep H H' [aa, la]) (h : SqL K H a xs) (g : AskAt CA H aa la n l) (n1 : a ≠ la) : SqL K H' a xs := k.seq h fun q hq => by
  obtain ⟨⟨dx, e⟩, f⟩ := g
  rcases List.mem_cons.mp hq with z | z
  · rw [z]
    exact .inr (.inl ⟨_, _, _, e⟩)
  · rw [List.mem_singleton.mp z]
    exact .inr (.inr n1)
section
variable {P' : Program} {w : World} {K : PySem.W.Frag} {mg : Str → Option Value} {base : Heap} {f CK CA : Addr} {fd : FuncData}
theorem scName : FnScope ["asker", "number"] ["asker", "number"] (defScope sName) := ⟨rfl, rfl, rfl, by decide +kernel, rfl, by decide +kernel, by decide +kernel⟩
theorem ok_name (F : Fun K "name" "name" sName f fd) (T : TxtA K CA) (M1 : MethOk P' w K mg base CA "ask_name" 2 ["self", "number"] (spAskName CA)) (gH : ∃ t, mg "HIGHEST_NUMBER" = some (.int 9999 t)) (gO : ∃ t, mg "OUT_OF_RANGE" = some (.int (-22) t)) : FnOk P' w K mg base CX0 3 f fd ["asker", "number"] (spName CA) := by
  refine F.ok scName (fun vs H Q E h => ?_) (fun cdv A outer s H vs Q E hr h => ?_)
  · obtain ⟨aa, la, k, rfl, _⟩ := h
    rfl
  · obtain ⟨aa, la, k, rfl, hA, q⟩ := h
    refine ⟨_, pss_cons (ps_if (pt_cmpR op_gt (pv 1) (pe_gl (by rfl) gH) (nomark _)) (pss_one (ps_ret (pe_lst (pa_cons (pe_gl (by rfl) gO) pa_nil)))) pss_nil)
      (pss_one (ps_ret (pe_lst (pa_cons pe_int (pa_cons (pe_methD (pv 0) T.cl M1 hr (pa_cons (pv 1) pa_nil)) pa_nil))))), ?_⟩
    refine ⟨_, rfl, _, _, rfl, rfl, _, rfl, ?_⟩
    unfold mName at q
    by_cases c : 9999 < k
    · rw [if_pos c] at q
      refine if_t (decide_eq_true (by omega)) ?_
      refine ⟨(by show 1 ≤ sizeLine; decide), fun p hp => ?_⟩
      exact q _ p (hA.keep (Keep.new (ex := []) hp) (by simp) (by simp)) upd_same (Keep.new hp)
    · rw [if_neg c] at q
      refine if_f (decide_eq_false (by omega)) ?_
      obtain ⟨dx, ha⟩ := hA.at_
      refine ⟨_, rfl, aa, dx, _, rfl, ha, aF_no _ _ (by decide +kernel), _, rfl, aa, la, 0, [], k, rfl, hA, Nat.zero_le _, fun H1 hA1 k1 => ?_⟩
      refine ⟨(by show 2 ≤ sizeLine; decide), fun p hp => ?_⟩
      exact q _ p (hA1.keep (Keep.new (ex := []) hp) (by simp) (by simp)) upd_same (k1.store (.inr (k1.free hp (hA1.fresh hp))))
theorem scTry : FnScope ["kept", "x"] ["kept", "x"] (defScope sTry) := ⟨rfl, rfl, rfl, by decide +kernel, rfl, by decide +kernel, by decide +kernel⟩
theorem ok_try (F : Fun K "try_one" "try_one" sTry f fd) (T : TxtK K CK) (D1 : DefOk P' w K mg base "is_spoilt" 1 ["kept"] (spSpoilt CK)) (D2 : DefOk P' w K mg base "comes_to" 1 ["row", "x"] (spComes K)) (gS : ∃ t, mg "SPOILT" = some (.int (-71) t)) (gP : ∃ t, mg "P" = some (.int 2305843009213693951 t))
    (gO : ∃ t, mg "OUT_OF_RANGE" = some (.int (-22) t)) (gN : ∃ t, mg "NOBODY" = some (.int 0 t)) (gNT : ∃ t, mg "NOBODY_THERE" = some (.int (-2) t)) (gM : ∃ t, mg "MOST_TRIES" = some (.int 10 t)) (gL : ∃ t, mg "NO_TRIES_LEFT" = some (.int (-28) t)) : FnOk P' w K mg base CX0 2 f fd ["kept", "x"] (spTry CK) := by
  refine F.ok scTry (fun vs H Q E h => ?_) (fun cdv A outer s H vs Q E hr h => ?_)
  · obtain ⟨ka, ls, lr, st, x, rfl, _⟩ := h
    rfl
  · obtain ⟨ka, ls, lr, st, x, rfl, hK, q⟩ := h
    refine ⟨_, pss_cons (ps_if (pt_val (pe_callD D1 hr (by rfl) (pa_cons (pv 0) pa_nil))) (pss_one (ps_ret (pe_lst (pa_cons (pe_gl (by rfl) gS) pa_nil)))) pss_nil)
      (pss_cons (ps_if (pt_cmpR op_ge (pv 1) (pe_gl (by rfl) gP) (nomark _)) (pss_one (ps_ret (pe_lst (pa_cons (pe_gl (by rfl) gO) pa_nil)))) pss_nil)
      (pss_cons (ps_if (pt_cmpR op_eq (pe_fld (pv 0) rfl) (pe_gl (by rfl) gN) (nomark _)) (pss_one (ps_ret (pe_lst (pa_cons (pe_gl (by rfl) gNT) pa_nil)))) pss_nil)
      (pss_cons (ps_if (pt_cmpR op_eq (pe_fld (pv 0) rfl) (pe_gl (by rfl) gM) (nomark _)) (pss_one (ps_ret (pe_lst (pa_cons (pe_gl (by rfl) gL) pa_nil)))) pss_nil)
      (pss_cons (ps_fldaug (pv 0) pe_int in_add)
      (pss_one (ps_ret (pe_lst (pa_cons (pe_op op_sub (pe_gl (by rfl) gM) (pe_fld (pv 0) rfl)) (pa_cons (pe_callD D2 hr (by rfl) (pa_cons (pe_fld (pv 0) rfl) (pa_cons (pv 1) pa_nil))) pa_nil))))))))), ?_⟩
    have stay : ∀ (z : Int), (∀ (H' : Hp) (p : Addr), KeptAt CK H' ka ls lr st → H' p = some (.lst (vI [z])) → Keep H H' [ka] → Q (.ref p) H') → ∀ p, H p = none → Q (.ref p) (upd H p (.lst [V.int z])) := fun z k p hp =>
      k _ p (hK.keep (Keep.new (ex := []) hp) (by simp) (by simp) (by simp)) upd_same (Keep.new hp)
    refine ⟨_, rfl, ka, ls, lr, st, rfl, hK, _, rfl, ?_⟩
    unfold mTry at q
    by_cases c1 : st.2.fit = false
    · rw [if_pos c1] at q
      refine if_t (by rw [c1]; rfl) ?_
      exact ⟨(by show 1 ≤ sizeLine; decide), stay _ q⟩
    rw [if_neg c1] at q
    refine if_f (by cases e : st.2.fit with | true => rfl | false => exact absurd e c1) ?_
    refine ⟨_, rfl, _, _, rfl, rfl, _, rfl, ?_⟩
    by_cases c2 : P ≤ x
    · rw [if_pos c2] at q
      refine if_t (decide_eq_true (by have := P_is; omega)) ?_
      exact ⟨(by show 1 ≤ sizeLine; decide), stay _ q⟩
    rw [if_neg c2] at q
    refine if_f (decide_eq_false (by have := P_is; omega)) ?_
    obtain ⟨dx, hk⟩ := hK.at_
    refine ⟨_, rfl, ka, CK, dx, _, _, rfl, hk, T.cl, T.nState, kF_state st ls lr, rfl, _, rfl, ?_⟩
    by_cases c3 : st.2.state = 0
    · rw [if_pos c3] at q
      refine if_t (eq_t (by omega)) ?_
      exact ⟨(by show 1 ≤ sizeLine; decide), stay _ q⟩
    rw [if_neg c3] at q
    refine if_f (eq_f (by omega)) ?_
    refine ⟨_, rfl, ka, CK, dx, _, _, rfl, hk, T.cl, T.nTries, kF_tries st ls lr, rfl, _, rfl, ?_⟩
    have fit := (fit_iff st.2).mp (by cases e : st.2.fit with | true => rfl | false => exact absurd e c1)
    by_cases c4 : 10 ≤ st.2.tries
    · rw [if_pos c4] at q
      refine if_t (eq_t (by omega)) ?_
      exact ⟨(by show 1 ≤ sizeLine; decide), stay _ q⟩
    rw [if_neg c4] at q
    refine if_f (eq_f (by omega)) ?_
    refine ⟨_, rfl, ka, CK, dx, _, _, rfl, hk, T.cl, T.nTries, kF_tries st ls lr, _, _, rfl, rfl, dx, _, hk, (by show 6 < 1000; decide), ?_⟩
    rw [show (st.2.tries : Int) + 1 = ((st.2.tries + 1 : Nat) : Int) by omega, kP_tries]
    obtain ⟨e1, e2, e3⟩ := (⟨hK.at_, hK.box, hK.row⟩ : _ ∧ _ ∧ _)
    have nl : ls ≠ ka := (ne_of hk e2 (by intro z; cases z)).symm
    have nr : lr ≠ ka := (ne_of hk e3 (by intro z; cases z)).symm
    have k1 : Keep H (upd H ka (.ins CK dx (kF (st.1, Ks191.Co.mk st.2.row st.2.pass (st.2.tries + 1) st.2.state) ls lr))) [ka] := Keep.put
    have hK1 : KeptAt CK (upd H ka (.ins CK dx (kF (st.1, Ks191.Co.mk st.2.row st.2.pass (st.2.tries + 1) st.2.state) ls lr))) ka ls lr (st.1, Ks191.Co.mk st.2.row st.2.pass (st.2.tries + 1) st.2.state) :=
      ⟨⟨dx, upd_same⟩, k1 _ _ e2 (by simpa using nl), k1 _ _ e3 (by simpa using nr)⟩
    generalize upd H ka (.ins CK dx (kF (st.1, Ks191.Co.mk st.2.row st.2.pass (st.2.tries + 1) st.2.state) ls lr)) = H1 at k1 hK1 ⊢
    obtain ⟨dx1, hk1⟩ := hK1.at_
    refine ⟨_, rfl, ka, CK, dx1, _, _, rfl, hk1, T.cl, T.nTries, kF_tries _ ls lr, _, _, rfl, rfl, _, rfl, ka, CK, dx1, _, _, rfl, hk1, T.cl, T.nRow, kF_row _ ls lr, _, rfl, lr, st.2.row, x, rfl, SqL.of hK1.row, by omega, ?_⟩
    refine ⟨(by show 2 ≤ sizeLine; decide), fun p hp => ?_⟩
    refine q _ p (hK1.keep (Keep.new (ex := []) hp) (by simp) (by simp) (by simp)) ?_ (k1.store (.inr (k1.free hp (fun m => by rw [List.mem_singleton.mp m, hk1] at hp; cases hp))))
    rw [upd_same]
    show some (HO.lst [V.int (10 - ((st.2.tries + 1 : Nat) : Int)), V.int (Ks191.comes x st.2.row : Int)]) = some (HO.lst [V.int ((10 - st.2.tries - 1 : Nat) : Int), V.int (Ks191.comes x st.2.row : Int)])
    rw [show (10 : Int) - ((st.2.tries + 1 : Nat) : Int) = ((10 - st.2.tries - 1 : Nat) : Int) by omega]
theorem scSeal : FnScope ["kept", "asker", "y", "secret", "pad", "mark"] ["kept", "asker", "y", "secret"] (defScope sSeal) := ⟨rfl, rfl, rfl, by decide +kernel, rfl, by decide +kernel, by decide +kernel⟩
theorem ok_seal (F : Fun K "seal" "seal" sSeal f fd) (T : TxtK K CK) (TA : TxtA K CA) (M1 : MethOk P' w K mg base CA "ask_pad" 2 ["self", "y"] (spAskPad CA)) (M2 : MethOk P' w K mg base CA "ask_mark" 2 ["self", "y"] (spAskMark CA)) (D : DefOk P' w K mg base "xor_bytes" 1 ["some", "others"] (spXor K))
    (gP : ∃ t, mg "P" = some (.int 2305843009213693951 t)) (gO : ∃ t, mg "OUT_OF_RANGE" = some (.int (-22) t)) : FnOk P' w K mg base CX0 3 f fd ["kept", "asker", "y", "secret"] (spSeal K CK CA) := by
  refine F.ok scSeal (fun vs H Q E h => ?_) (fun cdv A outer s H vs Q E hr h => ?_)
  · obtain ⟨ka, aa, la, ls, lr, sa, st, y, sec, rfl, _⟩ := h
    rfl
  · obtain ⟨ka, aa, la, ls, lr, sa, st, y, sec, rfl, hK, hA, n1, n2, hS, n3, q⟩ := h
    refine ⟨_, pss_cons (ps_if (pt_cmpR op_ge (pv 2) (pe_gl (by rfl) gP) (nomark _)) (pss_one (ps_ret (pe_lst (pa_cons (pe_gl (by rfl) gO) pa_nil)))) pss_nil)
      (pss_cons (ps_set (i := 4) scSeal.nd rfl (Or.inl rfl) (pe_methD (pv 1) TA.cl M1 hr (pa_cons (pv 2) pa_nil)))
      (pss_cons (ps_set (i := 5) scSeal.nd rfl (Or.inl rfl) (pe_methD (pv 1) TA.cl M2 hr (pa_cons (pv 2) pa_nil)))
      (pss_cons (ps_fld (pv 0) (pe_callD D (hr.mono (by decide)) (by rfl) (pa_cons (pv 3) (pa_cons (pv 4) pa_nil))) rfl)
      (pss_cons (ps_fld (pv 0) (pv 5) rfl)
      (pss_one (ps_ret (pe_lst (pa_cons pe_int pa_nil)))))))), ?_⟩
    refine ⟨_, rfl, _, _, rfl, rfl, _, rfl, ?_⟩
    unfold Post mSeal at q
    by_cases c : P ≤ y
    · rw [if_pos c] at q
      refine if_t (decide_eq_true (by have := P_is; omega)) ?_
      exact ⟨(by show 1 ≤ sizeLine; decide), fun p hp => q _ p ls lr (hK.keep (Keep.new (ex := []) hp) (by simp) (by simp) (by simp)) (hA.keep (Keep.new (ex := []) hp) (by simp) (by simp)) upd_same (.inl rfl) (.inl rfl) (Keep.new hp)⟩
    rw [if_neg c] at q
    refine if_f (decide_eq_false (by have := P_is; omega)) ?_
    obtain ⟨dx, ha⟩ := hA.at_
    refine ⟨_, rfl, aa, dx, _, rfl, ha, aF_no _ _ (by decide +kernel), _, rfl, aa, la, 0, [], y, rfl, hA, Nat.zero_le _, fun H1 p1 f1 hA1 e1 k1 => ?_⟩
    obtain ⟨dx1, ha1⟩ := hA1.at_
    refine ⟨_, rfl, aa, dx1, _, rfl, ha1, aF_no _ _ (by decide +kernel), _, rfl, aa, la, 1, [2, (y : Int)], y, rfl, hA1, (by show 2 ≤ 900; decide), fun H2 hA2 k2 => ?_⟩
    have hK1 := hK.ask hA k1 n1 n2
    have hK2 := hK1.ask hA1 k2 n1 n2
    have k12 : Keep H H2 [aa, la] := k1.trans k2 fun p hp => .inl hp
    have hS2 := k12.seqA hS hA n3
    have p1n := hA.fresh f1
    have e2 : H2 p1 = some (.lst (vN (pd y))) := k2 _ _ e1 p1n
    refine ⟨_, rfl, _, rfl, sa, p1, sec, pd y, rfl, hS2, SqL.of e2, (by unfold pd; rw [List.length_map, List.length_range]; decide), fun H3 p3 f3 e3 k3 => ?_⟩
    have hK3 := hK2.keep k3 (by simp) (by simp) (by simp)
    have hA3 := hA2.keep k3 (by simp) (by simp)
    have k123 : Keep H H3 [aa, la] := k12.trans k3 fun _ hp => by cases hp
    have f3' : H p3 = none := k12.free f3 (hA2.fresh f3)
    obtain ⟨dk, hk3⟩ := hK3.at_
    refine ⟨_, rfl, ka, CK, dk, _, rfl, hk3, T.cl, T.nSealed, (by show 6 < 1000; decide), ?_⟩
    rw [kP_sealed st ls lr p3 (xr sec (pd y))]
    refine ⟨_, rfl, _, rfl, ka, CK, dk, _, rfl, upd_same, T.cl, T.nMark, (by show 6 < 1000; decide), ?_⟩
    rw [kP_mark _ p3 lr (mk y) (xr sec (pd y)), upd2]
    have hK4 : KeptAt CK (upd H3 ka (.ins CK dk (kF (Ks191.Box.mk (xr sec (pd y)) (mk y), st.2) p3 lr))) ka p3 lr (Ks191.Box.mk (xr sec (pd y)) (mk y), st.2) := KeptAt.put hk3 e3 hK3.row
    obtain ⟨a1, a2, a3, a4⟩ := hK3.apart hA3
    have hA4 : AskAt CA (upd H3 ka (.ins CK dk (kF (Ks191.Box.mk (xr sec (pd y)) (mk y), st.2) p3 lr))) aa la 2 [2, (y : Int), 3, (y : Int)] := hA3.keep (Keep.put (p := ka)) (by simpa using a1.symm) (by simpa using a2.symm)
    have k4 : Keep H (upd H3 ka (.ins CK dk (kF (Ks191.Box.mk (xr sec (pd y)) (mk y), st.2) p3 lr))) [ka, aa, la] := (k123.mono (ex' := [ka, aa, la]) fun p hp => .inl (List.Mem.tail _ hp)).store (.inl (by simp))
    generalize upd H3 ka (.ins CK dk (kF (Ks191.Box.mk (xr sec (pd y)) (mk y), st.2) p3 lr)) = H4 at hK4 hA4 k4 ⊢
    refine ⟨(by show 1 ≤ sizeLine; decide), fun p hp => ?_⟩
    exact q _ p p3 lr (hK4.keep (Keep.new (ex := []) hp) (by simp) (by simp) (by simp)) (hA4.keep (Keep.new (ex := []) hp) (by simp) (by simp)) upd_same (.inr f3') (.inl rfl) (k4.trans (Keep.new (ex := []) hp) fun _ hp => by cases hp)
theorem scOpen : FnScope ["kept", "asker", "y", "pad", "pass_told"] ["kept", "asker", "y"] (defScope sOpen) := ⟨rfl, rfl, rfl, by decide +kernel, rfl, by decide +kernel, by decide +kernel⟩
theorem ok_open (F : Fun K "open_box" "open_box" sOpen f fd) (T : TxtK K CK) (TA : TxtA K CA) (M1 : MethOk P' w K mg base CA "ask_pad" 2 ["self", "y"] (spAskPad CA)) (M2 : MethOk P' w K mg base CA "ask_mark" 2 ["self", "y"] (spAskMark CA)) (M3 : MethOk P' w K mg base CA "ask_pass" 2 ["self", "y"] (spAskPass CA)) (D : DefOk P' w K mg base "xor_bytes" 1 ["some", "others"] (spXor K))
    (gP : ∃ t, mg "P" = some (.int 2305843009213693951 t)) (gO : ∃ t, mg "OUT_OF_RANGE" = some (.int (-22) t)) (gW : ∃ t, mg "WRONG_MARK" = some (.int (-13) t)) : FnOk P' w K mg base CX0 3 f fd ["kept", "asker", "y"] (spOpen CK CA) := by
  refine F.ok scOpen (fun vs H Q E h => ?_) (fun cdv A outer s H vs Q E hr h => ?_)
  · obtain ⟨ka, aa, la, ls, lr, st, y, rfl, _⟩ := h
    rfl
  · obtain ⟨ka, aa, la, ls, lr, st, y, rfl, hK, hA, n1, n2, q⟩ := h
    refine ⟨_, pss_cons (ps_if (pt_cmpR op_ge (pv 2) (pe_gl (by rfl) gP) (nomark _)) (pss_one (ps_ret (pe_lst (pa_cons (pe_gl (by rfl) gO) pa_nil)))) pss_nil)
      (pss_cons (ps_if (pt_cmpR op_ne (pe_methD (pv 1) TA.cl M2 hr (pa_cons (pv 2) pa_nil)) (pe_fld (pv 0) rfl) (nomark _)) (pss_one (ps_ret (pe_lst (pa_cons (pe_gl (by rfl) gW) pa_nil)))) pss_nil)
      (pss_cons (ps_set (i := 3) scOpen.nd rfl (Or.inl rfl) (pe_methD (pv 1) TA.cl M1 hr (pa_cons (pv 2) pa_nil)))
      (pss_cons (ps_set (i := 4) scOpen.nd rfl (Or.inl rfl) (pe_methD (pv 1) TA.cl M3 hr (pa_cons (pv 2) pa_nil)))
      (pss_one (ps_ret (pe_op op_cat (pe_lst (pa_cons pe_int (pa_cons (pv 4) pa_nil))) (pe_callD D (hr.mono (by decide)) (by rfl) (pa_cons (pe_fld (pv 0) rfl) (pa_cons (pv 3) pa_nil))))))))), ?_⟩
    refine ⟨_, rfl, _, _, rfl, rfl, _, rfl, ?_⟩
    unfold Post mOpen at q
    by_cases c : P ≤ y
    · rw [if_pos c] at q
      refine if_t (decide_eq_true (by have := P_is; omega)) ?_
      exact ⟨(by show 1 ≤ sizeLine; decide), fun p hp => q _ p ls lr (hK.keep (Keep.new (ex := []) hp) (by simp) (by simp) (by simp)) (hA.keep (Keep.new (ex := []) hp) (by simp) (by simp)) upd_same (.inl rfl) (.inl rfl) (Keep.new hp)⟩
    rw [if_neg c] at q
    refine if_f (decide_eq_false (by have := P_is; omega)) ?_
    obtain ⟨dx, ha⟩ := hA.at_
    refine ⟨_, rfl, aa, dx, _, rfl, ha, aF_no _ _ (by decide +kernel), _, rfl, aa, la, 0, [], y, rfl, hA, Nat.zero_le _, fun H1 hA1 k1 => ?_⟩
    have hK1 := hK.ask hA k1 n1 n2
    obtain ⟨dk1, hk1⟩ := hK1.at_
    generalize mk y = my at q ⊢
    refine ⟨_, rfl, ka, CK, dk1, _, _, rfl, hk1, T.cl, T.nMark, kF_mark st ls lr, rfl, _, rfl, ?_⟩
    by_cases d : my ≠ st.1.mark
    · rw [if_pos d] at q
      refine if_t (ne_t (by omega)) ?_
      refine ⟨(by show 1 ≤ sizeLine; decide), fun p hp => ?_⟩
      exact q _ p ls lr (hK1.keep (Keep.new (ex := []) hp) (by simp) (by simp) (by simp)) (hA1.keep (Keep.new (ex := []) hp) (by simp) (by simp)) upd_same (.inl rfl) (.inl rfl) ((k1.mono (ex' := [ka, aa, la]) fun p hp => .inl (List.Mem.tail _ hp)).trans (Keep.new (ex := []) hp) fun _ hp => by cases hp)
    rw [if_neg d] at q
    refine if_f (ne_f (by omega)) ?_
    obtain ⟨dx1, ha1⟩ := hA1.at_
    refine ⟨_, rfl, aa, dx1, _, rfl, ha1, aF_no _ _ (by decide +kernel), _, rfl, aa, la, 1, [3, (y : Int)], y, rfl, hA1, (by show 2 ≤ 900; decide), fun H2 p2 f2 hA2 e2 k2 => ?_⟩
    have hK2 := hK1.ask hA1 k2 n1 n2
    have k12 : Keep H H2 [aa, la] := k1.trans k2 fun p hp => .inl hp
    obtain ⟨dx2, ha2⟩ := hA2.at_
    refine ⟨_, rfl, aa, dx2, _, rfl, ha2, aF_no _ _ (by decide +kernel), _, rfl, aa, la, 2, [3, (y : Int), 2, (y : Int)], y, rfl, hA2, (by show 4 ≤ 900; decide), fun H3 hA3 k3 => ?_⟩
    have hK3 := hK2.ask hA2 k3 n1 n2
    have e3 : H3 p2 = some (.lst (vN (pd y))) := k3 _ _ e2 (hA1.fresh f2)
    have k123 : Keep H H3 [aa, la] := k12.trans k3 fun p hp => .inl hp
    -- the list ahead
    refine ⟨_, rfl, (by show 2 ≤ sizeLine; decide), fun t ft => ?_⟩
    have hK4 := hK3.keep (Keep.new (ex := []) (o := .lst [V.int 0, V.int (ps y : Int)]) ft) (by simp) (by simp) (by simp)
    have hA4 := hA3.keep (Keep.new (ex := []) (o := .lst [V.int 0, V.int (ps y : Int)]) ft) (by simp) (by simp)
    have k4 : Keep H (upd H3 t (.lst [V.int 0, V.int (ps y : Int)])) [aa, la] := k123.trans (Keep.new (ex := []) ft) fun _ hp => by cases hp
    have e4 : upd H3 t (.lst [V.int 0, V.int (ps y : Int)]) p2 = some (.lst (vN (pd y))) := by
      rw [upd_ne (ne_of_none e3 ft)]
      exact e3
    have t4 : upd H3 t (.lst [V.int 0, V.int (ps y : Int)]) t = some (.lst [V.int 0, V.int (ps y : Int)]) := upd_same
    generalize upd H3 t (.lst [V.int 0, V.int (ps y : Int)]) = H4 at hK4 hA4 k4 e4 t4 ⊢
    obtain ⟨dk4, hk4⟩ := hK4.at_
    refine ⟨_, rfl, ka, CK, dk4, _, _, rfl, hk4, T.cl, T.nSealed, kF_sealed st ls lr, _, rfl, ls, p2, st.1.sealed_, pd y, rfl, SqL.of hK4.box, SqL.of e4, (by unfold pd; rw [List.length_map, List.length_range]; decide), fun H5 p5 f5 e5 k5 => ?_⟩
    have hK5 := hK4.keep k5 (by simp) (by simp) (by simp)
    have hA5 := hA4.keep k5 (by simp) (by simp)
    have k15 : Keep H H5 [aa, la] := k4.trans k5 fun _ hp => by cases hp
    refine ⟨t, p5, _, _, rfl, rfl, k5 _ _ t4 (by simp), e5, ?_, fun p hp => ?_⟩
    · rw [vN_len, xr_len]
      show 2 + min _ (pd y).length ≤ sizeLine
      have : (pd y).length = 64 := by
        unfold pd
        rw [List.length_map, List.length_range]
      exact Nat.le_of_lt (small1000 (by omega))
    · have hK6 := hK5.keep (Keep.new (ex := []) (o := .lst ([V.int 0, V.int (ps y : Int)] ++ vN (xr st.1.sealed_ (pd y)))) hp) (by simp) (by simp) (by simp)
      have hA6 := hA5.keep (Keep.new (ex := []) (o := .lst ([V.int 0, V.int (ps y : Int)] ++ vN (xr st.1.sealed_ (pd y)))) hp) (by simp) (by simp)
      have k6 : Keep H (upd H5 p (.lst ([V.int 0, V.int (ps y : Int)] ++ vN (xr st.1.sealed_ (pd y))))) [ka, aa, la] := (k15.mono (ex' := [ka, aa, la]) fun p hp => .inl (List.Mem.tail _ hp)).trans (Keep.new (ex := []) hp) fun _ hp => by cases hp
      have e6 : upd H5 p (.lst ([V.int 0, V.int (ps y : Int)] ++ vN (xr st.1.sealed_ (pd y)))) p = some (.lst (vI (0 :: (ps y : Int) :: nInt (xr st.1.sealed_ (pd y))))) := upd_same
      exact q _ p ls lr hK6 hA6 e6 (.inl rfl) (.inl rfl) k6
theorem scNew : FnScope ["kept", "asker", "x", "script", "row", "y"] ["kept", "asker", "x", "script"] (defScope sNew) := ⟨rfl, rfl, rfl, by decide +kernel, rfl, by decide +kernel, by decide +kernel⟩
theorem ok_new (F : Fun K "new" "new" sNew f fd) (T : TxtK K CK) (TA : TxtA K CA) (D1 : DefOk P' w K mg base "is_spoilt" 1 ["kept"] (spSpoilt CK)) (D2 : DefOk P' w K mg base "comes_to" 1 ["row", "x"] (spComes K)) (M1 : MethOk P' w K mg base CA "ask_row" 2 ["self", "script"] (spAskRow K CA)) (M2 : MethOk P' w K mg base CA "ask_pass" 2 ["self", "y"] (spAskPass CA))
    (gS : ∃ t, mg "SPOILT" = some (.int (-71) t)) (gP : ∃ t, mg "P" = some (.int 2305843009213693951 t)) (gO : ∃ t, mg "OUT_OF_RANGE" = some (.int (-22) t)) (gY : ∃ t, mg "SOMEBODY" = some (.int 1 t)) (gT : ∃ t, mg "SOMEBODY_THERE" = some (.int (-1) t)) : FnOk P' w K mg base CX0 3 f fd ["kept", "asker", "x", "script"] (spNew K CK CA) := by
  refine F.ok scNew (fun vs H Q E h => ?_) (fun cdv A outer s H vs Q E hr h => ?_)
  · obtain ⟨ka, aa, la, ls, lr, sa, st, x, row, rfl, _⟩ := h
    rfl
  · obtain ⟨ka, aa, la, ls, lr, sa, st, x, row, rfl, hK, hA, n1, n2, hS, n3, h11, q⟩ := h
    have hr1 : Room 1 _ := hr.mono (by decide)
    refine ⟨_, pss_cons (ps_if (pt_val (pe_callD D1 hr1 (by rfl) (pa_cons (pv 0) pa_nil))) (pss_one (ps_ret (pe_lst (pa_cons (pe_gl (by rfl) gS) pa_nil)))) pss_nil)
      (pss_cons (ps_if (pt_cmpR op_ge (pv 2) (pe_gl (by rfl) gP) (nomark _)) (pss_one (ps_ret (pe_lst (pa_cons (pe_gl (by rfl) gO) pa_nil)))) pss_nil)
      (pss_cons (ps_if (pt_cmpR op_eq (pe_fld (pv 0) rfl) (pe_gl (by rfl) gY) (nomark _)) (pss_one (ps_ret (pe_lst (pa_cons (pe_gl (by rfl) gT) pa_nil)))) pss_nil)
      (pss_cons (ps_set (i := 4) scNew.nd rfl (Or.inl rfl) (pe_methD (pv 1) TA.cl M1 hr (pa_cons (pv 3) pa_nil)))
      (pss_cons (ps_set (i := 5) scNew.nd rfl (Or.inl rfl) (pe_callD D2 hr1 (by rfl) (pa_cons (pv 4) (pa_cons (pv 2) pa_nil))))
      (pss_cons (ps_fld (pv 0) (pe_methD (pv 1) TA.cl M2 hr (pa_cons (pv 5) pa_nil)) rfl)
      (pss_cons (ps_fld (pv 0) (pv 4) rfl)
      (pss_cons (ps_fld (pv 0) pe_int rfl)
      (pss_cons (ps_fld (pv 0) (pe_gl (by rfl) gY) rfl)
      (pss_one (ps_ret (pe_lst (pa_cons pe_int (pa_cons (pv 5) pa_nil))))))))))))), ?_⟩
    unfold Post mNew at q
    have stay : ∀ (z : Int), (∀ (H' : Hp) (p ls' lr' : Addr), KeptAt CK H' ka ls' lr' st → AskAt CA H' aa la 0 [] → H' p = some (.lst (vI [z])) → (ls' = ls ∨ H ls' = none) → (lr' = lr ∨ H lr' = none) → Keep H H' [ka, aa, la] → Q (.ref p) H') → ∀ p, H p = none → Q (.ref p) (upd H p (.lst [V.int z])) := fun z k p hp =>
      k _ p ls lr (hK.keep (Keep.new (ex := []) hp) (by simp) (by simp) (by simp)) (hA.keep (Keep.new (ex := []) hp) (by simp) (by simp)) upd_same (.inl rfl) (.inl rfl) (Keep.new hp)
    refine ⟨_, rfl, ka, ls, lr, st, rfl, hK, _, rfl, ?_⟩
    by_cases c1 : st.2.fit = false
    · rw [if_pos c1] at q
      refine if_t (by rw [c1]; rfl) ?_
      exact ⟨(by show 1 ≤ sizeLine; decide), stay _ q⟩
    rw [if_neg c1] at q
    have c1' : st.2.fit = true := by cases e : st.2.fit with | true => rfl | false => exact absurd e c1
    refine if_f (by rw [c1']; rfl) ?_
    refine ⟨_, rfl, _, _, rfl, rfl, _, rfl, ?_⟩
    by_cases c2 : P ≤ x
    · rw [if_pos c2] at q
      refine if_t (decide_eq_true (by have := P_is; omega)) ?_
      exact ⟨(by show 1 ≤ sizeLine; decide), stay _ q⟩
    rw [if_neg c2] at q
    refine if_f (decide_eq_false (by have := P_is; omega)) ?_
    obtain ⟨dx, hk⟩ := hK.at_
    refine ⟨_, rfl, ka, CK, dx, _, _, rfl, hk, T.cl, T.nState, kF_state st ls lr, rfl, _, rfl, ?_⟩
    by_cases c3 : st.2.state = 1
    · rw [if_pos c3] at q
      refine if_t (eq_t (by omega)) ?_
      exact ⟨(by show 1 ≤ sizeLine; decide), stay _ q⟩
    rw [if_neg c3] at q
    refine if_f (eq_f (by omega)) ?_
    have e11 := h11 c1' (by omega) c3
    obtain ⟨da, ha⟩ := hA.at_
    refine ⟨_, rfl, aa, da, _, rfl, ha, aF_no _ _ (by decide +kernel), _, rfl, aa, la, sa, 0, [], row, rfl, hA, Nat.zero_le _, hS, n3, e11, fun H1 p1 f1 hA1 e1 k1 => ?_⟩
    have hK1 := hK.ask hA k1 n1 n2
    refine ⟨_, rfl, _, rfl, p1, row, x, rfl, SqL.of e1, by omega, ?_⟩
    obtain ⟨da1, ha1⟩ := hA1.at_
    have l5 : ((row.map fun _ => (5 : Int))).length = 11 := by rw [List.length_map, e11]
    refine ⟨_, rfl, aa, da1, _, rfl, ha1, aF_no _ _ (by decide +kernel), _, rfl, aa, la, 11, row.map (fun _ => 5), Ks191.comes x row, rfl, hA1, (by rw [l5]; decide), fun H2 hA2 k2 => ?_⟩
    have hK2 := hK1.ask hA1 k2 n1 n2
    have e2 : H2 p1 = some (.lst (vN row)) := k2 _ _ e1 (hA.fresh f1)
    have k12 : Keep H H2 [aa, la] := k1.trans k2 fun p hp => .inl hp
    rw [e11] at q
    generalize Ks191.comes x row = y at q hA2 ⊢
    obtain ⟨dk, hk2⟩ := hK2.at_
    refine ⟨_, rfl, ka, CK, dk, _, rfl, hk2, T.cl, T.nPass, (by show 6 < 1000; decide), ?_⟩
    rw [kP_pass_told]
    refine ⟨_, rfl, _, rfl, ka, CK, dk, _, rfl, upd_same, T.cl, T.nRow, (by show 6 < 1000; decide), ?_⟩
    rw [kP_row _ ls lr p1 row, upd_upd]
    refine ⟨_, rfl, ka, CK, dk, _, rfl, upd_same, T.cl, T.nTries, (by show 6 < 1000; decide), ?_⟩
    rw [show (0 : Int) = ((0 : Nat) : Int) by rfl, kP_tries, upd_upd]
    refine ⟨_, rfl, ka, CK, dk, _, rfl, upd_same, T.cl, T.nState, (by show 6 < 1000; decide), ?_⟩
    rw [show (1 : Int) = ((1 : Nat) : Int) by rfl, kP_state, upd_upd]
    have hK4 : KeptAt CK (upd H2 ka (.ins CK dk (kF (st.1, Ks191.Co.mk row (ps y) 0 1) ls p1))) ka ls p1 (st.1, Ks191.Co.mk row (ps y) 0 1) := KeptAt.put hk2 hK2.box e2
    obtain ⟨a1, a2, a3, a4⟩ := hK2.apart hA2
    have hA4 : AskAt CA (upd H2 ka (.ins CK dk (kF (st.1, Ks191.Co.mk row (ps y) 0 1) ls p1))) aa la 12 (row.map (fun _ => 5) ++ [4, (y : Int)]) := hA2.keep (Keep.put (p := ka)) (by simpa using a1.symm) (by simpa using a2.symm)
    have k4 : Keep H (upd H2 ka (.ins CK dk (kF (st.1, Ks191.Co.mk row (ps y) 0 1) ls p1))) [ka, aa, la] := (k12.mono (ex' := [ka, aa, la]) fun p hp => .inl (List.Mem.tail _ hp)).store (.inl (by simp))
    refine ⟨_, rfl, (by show 2 ≤ sizeLine; decide), fun p hp => ?_⟩
    have hp' : upd H2 ka (.ins CK dk (kF (st.1, Ks191.Co.mk row (ps y) 0 1) ls p1)) p = none := hp
    exact q _ p ls p1 (hK4.keep (Keep.new (ex := []) hp') (by simp) (by simp) (by simp)) (hA4.keep (Keep.new (ex := []) hp') (by simp) (by simp)) upd_same (.inl rfl) (.inr f1) (k4.trans (Keep.new (ex := []) hp') fun _ hp => by cases hp)
end
end Ten

set_option Elab.async false
set_option linter.all false
set_option maxRecDepth 100000
set_option maxHeartbeats 4000000
namespace Ten
open PySem PySem.Spec PyProof.Rows L2
open Ks191Neutral (S)
/-! ### the acts of the second stage -/
def spFree (CK : Addr) : Sp := fun vs H Q _ => ∃ (ka ls lr : Addr) (s : S) (m : Nat), vs = [.ref ka, .int (m : Int)] ∧ KeptAt CK H ka ls lr s ∧
  ∀ (H' : Hp) (p : Addr), KeptAt CK H' ka ls lr (mFree s m).st → H' p = some (.lst (vI (mFree s m).told)) → Keep H H' [ka] → Q (.ref p) H'
def spBox (K : PySem.W.Frag) (CK : Addr) : Sp := fun vs H Q _ => ∃ (ka ls lr sa : Addr) (s : S) (m : Nat) (b : List Nat), vs = [.ref ka, .int (m : Int), .ref sa] ∧ KeptAt CK H ka ls lr s ∧ SqL K H sa (vN b) ∧
  ∀ (H' : Hp) (p ls' : Addr), H p = none → H ls' = none → KeptAt CK H' ka ls' lr (Ks191.Box.mk b m, s.2) → H' p = some (.lst (vI [0])) → Keep H H' [ka] → Q (.ref p) H'
def spCounter (K : PySem.W.Frag) (CK : Addr) : Sp := fun vs H Q _ => ∃ (ka ls lr sa : Addr) (s : S) (m t z : Nat) (row : List Nat), vs = [.ref ka, .int (m : Int), .int (t : Int), .int (z : Int), .ref sa] ∧ KeptAt CK H ka ls lr s ∧ SqL K H sa (vN row) ∧
  ∀ (H' : Hp) (p lr' : Addr), H p = none → H lr' = none → KeptAt CK H' ka ls lr' (s.1, Ks191.Co.mk row m t z) → H' p = some (.lst (vI [0])) → Keep H H' [ka] → Q (.ref p) H'
def spLook (CK : Addr) : Sp := fun vs H Q _ => ∃ (ka ls lr : Addr) (s : S), vs = [.ref ka] ∧ KeptAt CK H ka ls lr s ∧ (look s).length ≤ 10000000 ∧
  ∀ (H' : Hp) (p : Addr), H p = none → KeptAt CK H' ka ls lr s → H' p = some (.lst (vI (look s))) → Keep H H' [] → Q (.ref p) H'
section
variable {P' : Program} {w : World} {K : PySem.W.Frag} {mg : Str → Option Value} {base : Heap} {f CK CA : Addr} {fd : FuncData}
theorem scFree : FnScope ["kept", "pass_told"] ["kept", "pass_told"] (defScope sFree) := ⟨rfl, rfl, rfl, by decide +kernel, rfl, by decide +kernel, by decide +kernel⟩
theorem ok_free (F : Fun K "free" "free" sFree f fd) (T : TxtK K CK) (D1 : DefOk P' w K mg base "is_spoilt" 1 ["kept"] (spSpoilt CK)) (gS : ∃ t, mg "SPOILT" = some (.int (-71) t))
    (gN : ∃ t, mg "NOBODY" = some (.int 0 t)) (gNT : ∃ t, mg "NOBODY_THERE" = some (.int (-2) t)) (gM : ∃ t, mg "MOST_TRIES" = some (.int 10 t)) (gL : ∃ t, mg "NO_TRIES_LEFT" = some (.int (-28) t)) (gG : ∃ t, mg "LET_GO" = some (.int 2 t)) : FnOk P' w K mg base CX0 2 f fd ["kept", "pass_told"] (spFree CK) := by
  refine F.ok scFree (fun vs H Q E h => ?_) (fun cdv A outer s H vs Q E hr h => ?_)
  · obtain ⟨ka, ls, lr, st, x, rfl, _⟩ := h
    rfl
  · obtain ⟨ka, ls, lr, st, m, rfl, hK, q⟩ := h
    refine ⟨_, pss_cons (ps_if (pt_val (pe_callD D1 hr (by rfl) (pa_cons (pv 0) pa_nil))) (pss_one (ps_ret (pe_lst (pa_cons (pe_gl (by rfl) gS) pa_nil)))) pss_nil)
      (pss_cons (ps_if (pt_cmpR op_eq (pe_fld (pv 0) rfl) (pe_gl (by rfl) gN) (nomark _)) (pss_one (ps_ret (pe_lst (pa_cons (pe_gl (by rfl) gNT) pa_nil)))) pss_nil)
      (pss_cons (ps_if (pt_cmpR op_eq (pe_fld (pv 0) rfl) (pe_gl (by rfl) gM) (nomark _)) (pss_one (ps_ret (pe_lst (pa_cons (pe_gl (by rfl) gL) pa_nil)))) pss_nil)
      (pss_cons (ps_if (pt_cmpR op_ne (pv 1) (pe_fld (pv 0) rfl) (nomark _)) (pss_cons (ps_fldaug (pv 0) pe_int in_add) (pss_one (ps_ret (pe_lst (pa_cons pe_int pa_nil))))) pss_nil)
      (pss_cons (ps_fld (pv 0) (pe_gl (by rfl) gG) rfl)
      (pss_one (ps_ret (pe_lst (pa_cons pe_int pa_nil)))))))), ?_⟩
    have stay : ∀ (z : Int), (∀ (H' : Hp) (p : Addr), KeptAt CK H' ka ls lr st → H' p = some (.lst (vI [z])) → Keep H H' [ka] → Q (.ref p) H') → ∀ p, H p = none → Q (.ref p) (upd H p (.lst [V.int z])) := fun z k p hp =>
      k _ p (hK.keep (Keep.new (ex := []) hp) (by simp) (by simp) (by simp)) upd_same (Keep.new hp)
    refine ⟨_, rfl, ka, ls, lr, st, rfl, hK, _, rfl, ?_⟩
    unfold mFree at q
    by_cases c1 : st.2.fit = false
    · rw [if_pos c1] at q
      refine if_t (by rw [c1]; rfl) ?_
      exact ⟨(by show 1 ≤ sizeLine; decide), stay _ q⟩
    rw [if_neg c1] at q
    refine if_f (by cases e : st.2.fit with | true => rfl | false => exact absurd e c1) ?_
    obtain ⟨dx, hk⟩ := hK.at_
    refine ⟨_, rfl, ka, CK, dx, _, _, rfl, hk, T.cl, T.nState, kF_state st ls lr, rfl, _, rfl, ?_⟩
    by_cases c3 : st.2.state = 0
    · rw [if_pos c3] at q
      refine if_t (eq_t (by omega)) ?_
      exact ⟨(by show 1 ≤ sizeLine; decide), stay _ q⟩
    rw [if_neg c3] at q
    refine if_f (eq_f (by omega)) ?_
    refine ⟨_, rfl, ka, CK, dx, _, _, rfl, hk, T.cl, T.nTries, kF_tries st ls lr, rfl, _, rfl, ?_⟩
    have fit := (fit_iff st.2).mp (by cases e : st.2.fit with | true => rfl | false => exact absurd e c1)
    by_cases c4 : 10 ≤ st.2.tries
    · rw [if_pos c4] at q
      refine if_t (eq_t (by omega)) ?_
      exact ⟨(by show 1 ≤ sizeLine; decide), stay _ q⟩
    rw [if_neg c4] at q
    refine if_f (eq_f (by omega)) ?_
    refine ⟨_, rfl, _, rfl, ka, CK, dx, _, _, rfl, hk, T.cl, T.nPass, kF_pass st ls lr, rfl, _, rfl, ?_⟩
    obtain ⟨e1, e2, e3⟩ := (⟨hK.at_, hK.box, hK.row⟩ : _ ∧ _ ∧ _)
    by_cases c5 : m = st.2.pass
    · rw [if_pos c5] at q
      refine if_f (ne_f (by omega)) ?_
      refine ⟨_, rfl, ka, CK, dx, _, rfl, hk, T.cl, T.nState, (by show 6 < 1000; decide), ?_⟩
      rw [show (2 : Int) = ((2 : Nat) : Int) by rfl, kP_state]
      have hK1 : KeptAt CK (upd H ka (.ins CK dx (kF (st.1, Ks191.Co.mk st.2.row st.2.pass st.2.tries 2) ls lr))) ka ls lr (st.1, Ks191.Co.mk st.2.row st.2.pass st.2.tries 2) := KeptAt.put hk e2 e3
      have k1 : Keep H (upd H ka (.ins CK dx (kF (st.1, Ks191.Co.mk st.2.row st.2.pass st.2.tries 2) ls lr))) [ka] := Keep.put
      generalize upd H ka (.ins CK dx (kF (st.1, Ks191.Co.mk st.2.row st.2.pass st.2.tries 2) ls lr)) = H1 at k1 hK1 ⊢
      refine ⟨(by show 1 ≤ sizeLine; decide), fun p hp => ?_⟩
      exact q _ p (hK1.keep (Keep.new (ex := []) hp) (by simp) (by simp) (by simp)) upd_same (k1.trans (Keep.new (ex := []) hp) fun _ hp => by cases hp)
    · rw [if_neg c5] at q
      refine if_t (ne_t (by omega)) ?_
      refine ⟨_, rfl, ka, CK, dx, _, _, rfl, hk, T.cl, T.nTries, kF_tries st ls lr, _, _, rfl, rfl, dx, _, hk, (by show 6 < 1000; decide), ?_⟩
      rw [show (st.2.tries : Int) + 1 = ((st.2.tries + 1 : Nat) : Int) by omega, kP_tries]
      have hK1 : KeptAt CK (upd H ka (.ins CK dx (kF (st.1, Ks191.Co.mk st.2.row st.2.pass (st.2.tries + 1) st.2.state) ls lr))) ka ls lr (st.1, Ks191.Co.mk st.2.row st.2.pass (st.2.tries + 1) st.2.state) := KeptAt.put hk e2 e3
      have k1 : Keep H (upd H ka (.ins CK dx (kF (st.1, Ks191.Co.mk st.2.row st.2.pass (st.2.tries + 1) st.2.state) ls lr))) [ka] := Keep.put
      generalize upd H ka (.ins CK dx (kF (st.1, Ks191.Co.mk st.2.row st.2.pass (st.2.tries + 1) st.2.state) ls lr)) = H1 at k1 hK1 ⊢
      refine ⟨(by show 1 ≤ sizeLine; decide), fun p hp => ?_⟩
      exact q _ p (hK1.keep (Keep.new (ex := []) hp) (by simp) (by simp) (by simp)) upd_same (k1.trans (Keep.new (ex := []) hp) fun _ hp => by cases hp)
theorem scBox : FnScope ["kept", "mark", "sealed"] ["kept", "mark", "sealed"] (defScope sBox) := ⟨rfl, rfl, rfl, by decide +kernel, rfl, by decide +kernel, by decide +kernel⟩
theorem ok_box (F : Fun K "box" "box" sBox f fd) (T : TxtK K CK) (mL : mg "list" = none) : FnOk P' w K mg base CX0 1 f fd ["kept", "mark", "sealed"] (spBox K CK) := by
  refine F.ok scBox (fun vs H Q E h => ?_) (fun cdv A outer s H vs Q E hr h => ?_)
  · obtain ⟨ka, ls, lr, sa, st, m, b, rfl, _⟩ := h
    rfl
  · obtain ⟨ka, ls, lr, sa, st, m, b, rfl, hK, hS, q⟩ := h
    refine ⟨_, pss_cons (ps_fld (pv 0) (pv 1) rfl)
      (pss_cons (ps_fld (pv 0) (pe_callTy call_list_of (by rfl) mL (by decide +kernel) (pa_cons (pv 2) pa_nil)) rfl)
      (pss_one (ps_ret (pe_lst (pa_cons pe_int pa_nil))))), ?_⟩
    obtain ⟨dx, hk⟩ := hK.at_
    refine ⟨_, rfl, _, rfl, ka, CK, dx, _, rfl, hk, T.cl, T.nMark, (by show 6 < 1000; decide), ?_⟩
    rw [kP_mark st ls lr m st.1.sealed_]
    have k1 : Keep H (upd H ka (.ins CK dx (kF (Ks191.Box.mk st.1.sealed_ m, st.2) ls lr))) [ka] := Keep.put
    have hS1 : SqL K (upd H ka (.ins CK dx (kF (Ks191.Box.mk st.1.sealed_ m, st.2) ls lr))) sa (vN b) := k1.seq1 hS hk
    have hK1 : KeptAt CK (upd H ka (.ins CK dx (kF (Ks191.Box.mk st.1.sealed_ m, st.2) ls lr))) ka ls lr (Ks191.Box.mk st.1.sealed_ m, st.2) := KeptAt.put hk hK.box hK.row
    have hk1 : upd H ka (.ins CK dx (kF (Ks191.Box.mk st.1.sealed_ m, st.2) ls lr)) ka = some (.ins CK dx (kF (Ks191.Box.mk st.1.sealed_ m, st.2) ls lr)) := upd_same
    generalize upd H ka (.ins CK dx (kF (Ks191.Box.mk st.1.sealed_ m, st.2) ls lr)) = H1 at k1 hS1 hK1 hk1 ⊢
    refine ⟨_, rfl, sa, _, rfl, .inl hS1, fun l nl => ?_⟩
    have nka : ka ≠ l := ne_of_none hk1 nl
    have k2 : Keep H (upd H1 l (.lst (vN b))) [ka] := k1.trans (Keep.new (ex := []) nl) fun _ hp => by cases hp
    have nlH : H l = none := k1.free nl fun m => nka (List.mem_singleton.mp m).symm
    have hk2 : upd H1 l (.lst (vN b)) ka = some (.ins CK dx (kF (Ks191.Box.mk st.1.sealed_ m, st.2) ls lr)) := by
      rw [upd_ne nka]
      exact hk1
    have l2 : upd H1 l (.lst (vN b)) l = some (.lst (vN b)) := upd_same
    have r2 : upd H1 l (.lst (vN b)) lr = some (.lst (vN st.2.row)) := by
      rw [upd_ne (ne_of_none hK1.row nl)]
      exact hK1.row
    generalize upd H1 l (.lst (vN b)) = H2 at k2 hk2 l2 r2 ⊢
    refine ⟨_, rfl, ka, CK, dx, _, rfl, hk2, T.cl, T.nSealed, (by show 6 < 1000; decide), ?_⟩
    rw [kP_sealed _ ls lr l b]
    have hK3 : KeptAt CK (upd H2 ka (.ins CK dx (kF (Ks191.Box.mk b m, st.2) l lr))) ka l lr (Ks191.Box.mk b m, st.2) := KeptAt.put hk2 l2 r2
    have k3 : Keep H (upd H2 ka (.ins CK dx (kF (Ks191.Box.mk b m, st.2) l lr))) [ka] := k2.store (.inl (by simp))
    refine ⟨(by show 1 ≤ sizeLine; decide), fun p hp => ?_⟩
    have hp' : upd H2 ka (.ins CK dx (kF (Ks191.Box.mk b m, st.2) l lr)) p = none := hp
    exact q _ p l (k3.free hp' fun m => by rw [List.mem_singleton.mp m, upd_same] at hp'; cases hp') nlH (hK3.keep (Keep.new (ex := []) hp') (by simp) (by simp) (by simp)) upd_same (k3.trans (Keep.new (ex := []) hp') fun _ hp => by cases hp)
theorem scCounter : FnScope ["kept", "pass_told", "tries", "state", "row"] ["kept", "pass_told", "tries", "state", "row"] (defScope sCounter) := ⟨rfl, rfl, rfl, by decide +kernel, rfl, by decide +kernel, by decide +kernel⟩
theorem ok_counter (F : Fun K "counter" "counter" sCounter f fd) (T : TxtK K CK) (mL : mg "list" = none) : FnOk P' w K mg base CX0 1 f fd ["kept", "pass_told", "tries", "state", "row"] (spCounter K CK) := by
  refine F.ok scCounter (fun vs H Q E h => ?_) (fun cdv A outer s H vs Q E hr h => ?_)
  · obtain ⟨ka, ls, lr, sa, st, m, t, z, row, rfl, _⟩ := h
    rfl
  · obtain ⟨ka, ls, lr, sa, st, m, t, z, row, rfl, hK, hS, q⟩ := h
    refine ⟨_, pss_cons (ps_fld (pv 0) (pv 1) rfl)
      (pss_cons (ps_fld (pv 0) (pv 2) rfl)
      (pss_cons (ps_fld (pv 0) (pv 3) rfl)
      (pss_cons (ps_fld (pv 0) (pe_callTy call_list_of (by rfl) mL (by decide +kernel) (pa_cons (pv 4) pa_nil)) rfl)
      (pss_one (ps_ret (pe_lst (pa_cons pe_int pa_nil))))))), ?_⟩
    obtain ⟨dx, hk⟩ := hK.at_
    refine ⟨_, rfl, _, rfl, ka, CK, dx, _, rfl, hk, T.cl, T.nPass, (by show 6 < 1000; decide), ?_⟩
    rw [kP_pass_told]
    refine ⟨_, rfl, _, rfl, ka, CK, dx, _, rfl, upd_same, T.cl, T.nTries, (by show 6 < 1000; decide), ?_⟩
    rw [kP_tries, upd_upd]
    refine ⟨_, rfl, _, rfl, ka, CK, dx, _, rfl, upd_same, T.cl, T.nState, (by show 6 < 1000; decide), ?_⟩
    rw [kP_state, upd_upd]
    have k1 : Keep H (upd H ka (.ins CK dx (kF (st.1, Ks191.Co.mk st.2.row m t z) ls lr))) [ka] := Keep.put
    have hS1 : SqL K (upd H ka (.ins CK dx (kF (st.1, Ks191.Co.mk st.2.row m t z) ls lr))) sa (vN row) := k1.seq1 hS hk
    have hK1 : KeptAt CK (upd H ka (.ins CK dx (kF (st.1, Ks191.Co.mk st.2.row m t z) ls lr))) ka ls lr (st.1, Ks191.Co.mk st.2.row m t z) := KeptAt.put hk hK.box hK.row
    have hk1 : upd H ka (.ins CK dx (kF (st.1, Ks191.Co.mk st.2.row m t z) ls lr)) ka = some (.ins CK dx (kF (st.1, Ks191.Co.mk st.2.row m t z) ls lr)) := upd_same
    generalize upd H ka (.ins CK dx (kF (st.1, Ks191.Co.mk st.2.row m t z) ls lr)) = H1 at k1 hS1 hK1 hk1 ⊢
    refine ⟨_, rfl, sa, _, rfl, .inl hS1, fun l nl => ?_⟩
    have nka : ka ≠ l := ne_of_none hk1 nl
    have k2 : Keep H (upd H1 l (.lst (vN row))) [ka] := k1.trans (Keep.new (ex := []) nl) fun _ hp => by cases hp
    have nlH : H l = none := k1.free nl fun m => nka (List.mem_singleton.mp m).symm
    have hk2 : upd H1 l (.lst (vN row)) ka = some (.ins CK dx (kF (st.1, Ks191.Co.mk st.2.row m t z) ls lr)) := by
      rw [upd_ne nka]
      exact hk1
    have l2 : upd H1 l (.lst (vN row)) l = some (.lst (vN row)) := upd_same
    have r2 : upd H1 l (.lst (vN row)) ls = some (.lst (vN st.1.sealed_)) := by
      rw [upd_ne (ne_of_none hK1.box nl)]
      exact hK1.box
    generalize upd H1 l (.lst (vN row)) = H2 at k2 hk2 l2 r2 ⊢
    refine ⟨_, rfl, ka, CK, dx, _, rfl, hk2, T.cl, T.nRow, (by show 6 < 1000; decide), ?_⟩
    rw [kP_row _ ls lr l row]
    have hK3 : KeptAt CK (upd H2 ka (.ins CK dx (kF (st.1, Ks191.Co.mk row m t z) ls l))) ka ls l (st.1, Ks191.Co.mk row m t z) := KeptAt.put hk2 r2 l2
    have k3 : Keep H (upd H2 ka (.ins CK dx (kF (st.1, Ks191.Co.mk row m t z) ls l))) [ka] := k2.store (.inl (by simp))
    refine ⟨(by show 1 ≤ sizeLine; decide), fun p hp => ?_⟩
    have hp' : upd H2 ka (.ins CK dx (kF (st.1, Ks191.Co.mk row m t z) ls l)) p = none := hp
    exact q _ p l (k3.free hp' fun m => by rw [List.mem_singleton.mp m, upd_same] at hp'; cases hp') nlH (hK3.keep (Keep.new (ex := []) hp') (by simp) (by simp) (by simp)) upd_same (k3.trans (Keep.new (ex := []) hp') fun _ hp => by cases hp)
theorem scLook : FnScope ["kept", "told_box", "told_counter"] ["kept"] (defScope sLook) := ⟨rfl, rfl, rfl, by decide +kernel, rfl, by decide +kernel, by decide +kernel⟩
theorem look_len (s : S) : (look s).length = s.1.sealed_.length + s.2.row.length + 5 := by
  unfold look nInt Ks191Neutral.ints
  simp only [List.length_append, List.length_cons, List.length_map]
  omega
theorem ok_look (F : Fun K "look" "look" sLook f fd) (T : TxtK K CK) : FnOk P' w K mg base CX0 1 f fd ["kept"] (spLook CK) := by
  refine F.ok scLook (fun vs H Q E h => ?_) (fun cdv A outer s H vs Q E hr h => ?_)
  · obtain ⟨ka, ls, lr, st, rfl, _⟩ := h
    rfl
  · obtain ⟨ka, ls, lr, st, rfl, hK, hl, q⟩ := h
    refine ⟨_, pss_cons (ps_set (i := 1) scLook.nd rfl (Or.inl rfl) (pe_op op_cat (pe_lst (pa_cons (pe_fld (pv 0) rfl) pa_nil)) (pe_fld (pv 0) rfl)))
      (pss_cons (ps_set (i := 2) scLook.nd rfl (Or.inl rfl) (pe_op op_cat (pe_lst (pa_cons (pe_fld (pv 0) rfl) (pa_cons (pe_fld (pv 0) rfl) (pa_cons (pe_fld (pv 0) rfl) pa_nil)))) (pe_fld (pv 0) rfl)))
      (pss_one (ps_ret (pe_op op_cat (pe_op op_cat (pe_lst (pa_cons pe_int pa_nil)) (pv 1)) (pv 2))))), ?_⟩
    rw [look_len] at hl
    have big : ∀ n : Nat, n ≤ 10000000 → n ≤ sizeLine := fun n h => Nat.le_trans h (by decide)
    obtain ⟨dx, hk⟩ := hK.at_
    -- [kept.mark] + kept.sealed
    refine ⟨_, rfl, ka, CK, dx, _, _, rfl, hk, T.cl, T.nMark, kF_mark st ls lr, (by show 1 ≤ sizeLine; decide), fun t1 f1 => ?_⟩
    have hK1 := hK.keep (Keep.new (ex := []) (o := .lst [V.int (st.1.mark : Int)]) f1) (by simp) (by simp) (by simp)
    have k1 : Keep H (upd H t1 (.lst [V.int (st.1.mark : Int)])) [] := Keep.new f1
    have t1' : upd H t1 (.lst [V.int (st.1.mark : Int)]) t1 = some (.lst [V.int (st.1.mark : Int)]) := upd_same
    generalize upd H t1 (.lst [V.int (st.1.mark : Int)]) = H1 at hK1 k1 t1' ⊢
    obtain ⟨dx1, hk1⟩ := hK1.at_
    refine ⟨_, rfl, ka, CK, dx1, _, _, rfl, hk1, T.cl, T.nSealed, kF_sealed st ls lr, t1, ls, _, _, rfl, rfl, t1', hK1.box, (by rw [vN_len]; exact big _ (by show 1 + _ ≤ _; omega)), fun b f2 => ?_⟩
    have hK2 := hK1.keep (Keep.new (ex := []) (o := .lst ([V.int (st.1.mark : Int)] ++ vN st.1.sealed_)) f2) (by simp) (by simp) (by simp)
    have k2 : Keep H (upd H1 b (.lst ([V.int (st.1.mark : Int)] ++ vN st.1.sealed_))) [] := k1.trans (Keep.new (ex := []) f2) fun _ hp => by cases hp
    have b2 : upd H1 b (.lst ([V.int (st.1.mark : Int)] ++ vN st.1.sealed_)) b = some (.lst ([V.int (st.1.mark : Int)] ++ vN st.1.sealed_)) := upd_same
    generalize upd H1 b (.lst ([V.int (st.1.mark : Int)] ++ vN st.1.sealed_)) = H2 at hK2 k2 b2 ⊢
    obtain ⟨dx2, hk2⟩ := hK2.at_
    -- [kept.pass_told, kept.tries, kept.state] + kept.row
    refine ⟨_, rfl, ka, CK, dx2, _, _, rfl, hk2, T.cl, T.nPass, kF_pass st ls lr, _, rfl, ka, CK, dx2, _, _, rfl, hk2, T.cl, T.nTries, kF_tries st ls lr, _, rfl, ka, CK, dx2, _, _, rfl, hk2, T.cl, T.nState, kF_state st ls lr, (by show 3 ≤ sizeLine; decide), fun t3 f3 => ?_⟩
    have hK3 := hK2.keep (Keep.new (ex := []) (o := .lst [V.int (st.2.pass : Int), V.int (st.2.tries : Int), V.int (st.2.state : Int)]) f3) (by simp) (by simp) (by simp)
    have k3 : Keep H (upd H2 t3 (.lst [V.int (st.2.pass : Int), V.int (st.2.tries : Int), V.int (st.2.state : Int)])) [] := k2.trans (Keep.new (ex := []) f3) fun _ hp => by cases hp
    have b3 : upd H2 t3 (.lst [V.int (st.2.pass : Int), V.int (st.2.tries : Int), V.int (st.2.state : Int)]) b = some (.lst ([V.int (st.1.mark : Int)] ++ vN st.1.sealed_)) := by
      rw [upd_ne (ne_of_none b2 f3)]
      exact b2
    have t3' : upd H2 t3 (.lst [V.int (st.2.pass : Int), V.int (st.2.tries : Int), V.int (st.2.state : Int)]) t3 = some (.lst [V.int (st.2.pass : Int), V.int (st.2.tries : Int), V.int (st.2.state : Int)]) := upd_same
    generalize upd H2 t3 (.lst [V.int (st.2.pass : Int), V.int (st.2.tries : Int), V.int (st.2.state : Int)]) = H3 at hK3 k3 b3 t3' ⊢
    obtain ⟨dx3, hk3⟩ := hK3.at_
    refine ⟨_, rfl, ka, CK, dx3, _, _, rfl, hk3, T.cl, T.nRow, kF_row st ls lr, t3, lr, _, _, rfl, rfl, t3', hK3.row, (by rw [vN_len]; exact big _ (by show 3 + _ ≤ _; omega)), fun c f4 => ?_⟩
    have hK4 := hK3.keep (Keep.new (ex := []) (o := .lst ([V.int (st.2.pass : Int), V.int (st.2.tries : Int), V.int (st.2.state : Int)] ++ vN st.2.row)) f4) (by simp) (by simp) (by simp)
    have k4 : Keep H (upd H3 c (.lst ([V.int (st.2.pass : Int), V.int (st.2.tries : Int), V.int (st.2.state : Int)] ++ vN st.2.row))) [] := k3.trans (Keep.new (ex := []) f4) fun _ hp => by cases hp
    have b4 : upd H3 c (.lst ([V.int (st.2.pass : Int), V.int (st.2.tries : Int), V.int (st.2.state : Int)] ++ vN st.2.row)) b = some (.lst ([V.int (st.1.mark : Int)] ++ vN st.1.sealed_)) := by
      rw [upd_ne (ne_of_none b3 f4)]
      exact b3
    have c4 : upd H3 c (.lst ([V.int (st.2.pass : Int), V.int (st.2.tries : Int), V.int (st.2.state : Int)] ++ vN st.2.row)) c = some (.lst ([V.int (st.2.pass : Int), V.int (st.2.tries : Int), V.int (st.2.state : Int)] ++ vN st.2.row)) := upd_same
    generalize upd H3 c (.lst ([V.int (st.2.pass : Int), V.int (st.2.tries : Int), V.int (st.2.state : Int)] ++ vN st.2.row)) = H4 at hK4 k4 b4 c4 ⊢
    -- [0] + told_box
    refine ⟨(by show 1 ≤ sizeLine; decide), fun t5 f5 => ?_⟩
    have hK5 := hK4.keep (Keep.new (ex := []) (o := .lst [V.int 0]) f5) (by simp) (by simp) (by simp)
    have k5 : Keep H (upd H4 t5 (.lst [V.int 0])) [] := k4.trans (Keep.new (ex := []) f5) fun _ hp => by cases hp
    have b5 : upd H4 t5 (.lst [V.int 0]) b = some (.lst ([V.int (st.1.mark : Int)] ++ vN st.1.sealed_)) := by
      rw [upd_ne (ne_of_none b4 f5)]
      exact b4
    have c5 : upd H4 t5 (.lst [V.int 0]) c = some (.lst ([V.int (st.2.pass : Int), V.int (st.2.tries : Int), V.int (st.2.state : Int)] ++ vN st.2.row)) := by
      rw [upd_ne (ne_of_none c4 f5)]
      exact c4
    have t5' : upd H4 t5 (.lst [V.int 0]) t5 = some (.lst [V.int 0]) := upd_same
    generalize upd H4 t5 (.lst [V.int 0]) = H5 at hK5 k5 b5 c5 t5' ⊢
    refine ⟨_, rfl, t5, b, _, _, rfl, rfl, t5', b5, (by rw [List.length_append, vN_len]; exact big _ (by show 1 + (1 + _) ≤ _; omega)), fun t6 f6 => ?_⟩
    have hK6 := hK5.keep (Keep.new (ex := []) (o := .lst ([V.int 0] ++ ([V.int (st.1.mark : Int)] ++ vN st.1.sealed_))) f6) (by simp) (by simp) (by simp)
    have k6 : Keep H (upd H5 t6 (.lst ([V.int 0] ++ ([V.int (st.1.mark : Int)] ++ vN st.1.sealed_)))) [] := k5.trans (Keep.new (ex := []) f6) fun _ hp => by cases hp
    have c6 : upd H5 t6 (.lst ([V.int 0] ++ ([V.int (st.1.mark : Int)] ++ vN st.1.sealed_))) c = some (.lst ([V.int (st.2.pass : Int), V.int (st.2.tries : Int), V.int (st.2.state : Int)] ++ vN st.2.row)) := by
      rw [upd_ne (ne_of_none c5 f6)]
      exact c5
    have t6' : upd H5 t6 (.lst ([V.int 0] ++ ([V.int (st.1.mark : Int)] ++ vN st.1.sealed_))) t6 = some (.lst ([V.int 0] ++ ([V.int (st.1.mark : Int)] ++ vN st.1.sealed_))) := upd_same
    generalize upd H5 t6 (.lst ([V.int 0] ++ ([V.int (st.1.mark : Int)] ++ vN st.1.sealed_))) = H6 at hK6 k6 c6 t6' ⊢
    refine ⟨_, rfl, t6, c, _, _, rfl, rfl, t6', c6, ?_, fun p hp => ?_⟩
    · rw [List.length_append, List.length_append, List.length_append, vN_len, vN_len]
      exact big _ (by show 1 + (1 + _) + (3 + _) ≤ _; omega)
    · refine q _ p (k6.free hp (by simp)) (hK6.keep (Keep.new (ex := []) hp) (by simp) (by simp) (by simp)) ?_ (k6.trans (Keep.new (ex := []) hp) fun _ hp => by cases hp)
      rw [upd_same]
      refine congrArg some (congrArg HO.lst ?_)
      unfold look vI vN vI
      rw [List.map_cons, List.map_cons, List.map_append, List.map_cons, List.map_cons, List.map_cons]
      simp only [List.cons_append, List.nil_append, List.append_assoc]
end
end Ten

set_option Elab.async false
set_option linter.all false
set_option maxRecDepth 100000
set_option maxHeartbeats 4000000
namespace Ten
open PySem PySem.Spec PyProof.Rows L2
open Ks191Neutral (S)
open PyFlat (put put1)
/-! ### one call -/
/-- where a call stands: the object, the asker, the reader, the list that is read -/
structure Sit (K : PySem.W.Frag) (CK CA CR : Addr) (H : Hp) (ka aa la rd xa ls lr : Addr) (s : S) (n : Nat) (l : List Int) (xs : List Int) (i : Nat) : Prop where
  hK : KeptAt CK H ka ls lr s
  hA : AskAt CA H aa la n l
  hR : ReadAt CR H rd xa i
  hS : SqL K H xa (vI xs)
  n1 : la ≠ ls
  n2 : la ≠ lr
section
variable {K : PySem.W.Frag} {CK CA CR : Addr} {H H' : Hp} {ka aa la rd xa ls lr : Addr} {s : S} {n : Nat} {l xs : List Int} {i j : Nat}
theorem Sit.apart (h : Sit K CK CA CR H ka aa la rd xa ls lr s n l xs i) : rd ≠ ka ∧ rd ≠ aa ∧ rd ≠ la ∧ rd ≠ ls ∧ rd ≠ lr := by
  obtain ⟨dr, r⟩ := h.hR.at_
  obtain ⟨dk, k⟩ := h.hK.at_
  obtain ⟨da, a⟩ := h.hA.at_
  refine ⟨ne_of r k (by intro z; injection z with z1 z2 z3; exact absurd (congrArg List.length z3) (by show ¬ 2 = 6; decide)), ne_of r a ?_, ne_of r h.hA.li (by intro z; cases z), ne_of r h.hK.box (by intro z; cases z), ne_of r h.hK.row (by intro z; cases z)⟩
  intro z
  injection z with z1 z2 z3
  unfold rF aF at z3
  injection z3 with z4 z5
  exact absurd (congrArg Prod.fst z4) (by show ¬ ("numbers" : Str) = "how_many"; decide +kernel)
/-- the reader has gone on -/
theorem Sit.read (h : Sit K CK CA CR H ka aa la rd xa ls lr s n l xs i) (k : Keep H H' [rd]) (hR : ReadAt CR H' rd xa j) : Sit K CK CA CR H' ka aa la rd xa ls lr s n l xs j := by
  obtain ⟨a1, a2, a3, a4, a5⟩ := h.apart
  obtain ⟨dr, r⟩ := h.hR.at_
  exact ⟨h.hK.keep k (by simpa using a1.symm) (by simpa using a4.symm) (by simpa using a5.symm), h.hA.keep k (by simpa using a2.symm) (by simpa using a3.symm), hR, k.seq1 h.hS r, h.n1, h.n2⟩
end
/-- a call whose answer tells nothing of what was asked -/
def bare (z : Int) : Prop := z = 6 ∨ z = 7 ∨ z = 8
/-- what a call comes to, its answer parted as the program parts it -/
def PostT (K : PySem.W.Frag) (CK CA CR : Addr) (H : Hp) (ka aa la rd xa ls lr : Addr) (s : S) (z : Int) (c : List (List Int)) (j : Nat) (Q : VK) : Prop :=
  ∀ (H' : Hp) (p ls' lr' : Addr) (told asked : List Int) (n : Nat), (bare z → told = (Ks191Neutral.step s c).2 ∧ H p = none) → (¬ bare z → told ++ (n : Int) :: asked = (Ks191Neutral.step s c).2 ∧ told.length ≤ 100 ∧ asked.length ≤ 100) → KeptAt CK H' ka ls' lr' (Ks191Neutral.step s c).1 → AskAt CA H' aa la n asked → H' p = some (.lst (vI told)) → ReadAt CR H' rd xa j →
    (ls' = ls ∨ H ls' = none) → (lr' = lr ∨ H lr' = none) → Keep H H' [ka, aa, la, rd] → Q (.ref p) H'
def spTold (K : PySem.W.Frag) (CK CA CR : Addr) : Sp := fun vs H Q _ => ∃ (ka aa la rd xa ls lr : Addr) (s : S) (xs tl r : List Int) (z : Int) (i : Nat) (c : List (List Int)), vs = [.int z, .ref ka, .ref aa, .ref rd] ∧ Sit K CK CA CR H ka aa la rd xa ls lr s 0 [] xs i ∧ put1 c = z :: tl ∧ xs.drop i = tl ++ r ∧ Kind s c ∧ (Ks191Neutral.step s c).2.length ≤ 10000000 ∧
  PostT K CK CA CR H ka aa la rd xa ls lr s z c (i + tl.length) Q
def spPutC (K : PySem.W.Frag) (CK CR : Addr) : Sp := fun vs H Q _ => ∃ (ka rd xa ls lr : Addr) (s : S) (xs r : List Int) (i m t z : Nat) (row : List Nat), vs = [.ref ka, .ref rd] ∧ KeptAt CK H ka ls lr s ∧ ReadAt CR H rd xa i ∧ SqL K H xa (vI xs) ∧ rd ≠ ka ∧ rd ≠ ls ∧ rd ≠ lr ∧ xs.drop i = (m : Int) :: (t : Int) :: (z : Int) :: ((nInt row).length : Int) :: (nInt row ++ r) ∧
  ∀ (H' : Hp) (p lr' : Addr), KeptAt CK H' ka ls lr' (s.1, Ks191.Co.mk row m t z) → ReadAt CR H' rd xa (i + 4 + (nInt row).length) → H' p = some (.lst (vI [0])) → H p = none → H lr' = none → Keep H H' [ka, rd] → Q (.ref p) H'
theorem rd_free {H H' : Hp} {rd p C dx : Addr} {fs : List (Str × V)} (k : Keep H H' [rd]) (h : H' rd = some (.ins C dx fs)) (n : H' p = none) : H p = none := k.free n fun m => by
  rw [List.mem_singleton.mp m, h] at n
  cases n
/-- what an act comes to, behind the reader's own steps -/
theorem post_of {K : PySem.W.Frag} {CK CA CR : Addr} {H H2 : Hp} {ka aa la rd xa ls lr : Addr} {s : S} {xs : List Int} {j : Nat} {z : Int} {c : List (List Int)} {r : R} {Q : VK} (nb : ¬ bare z) (e : Ks191Neutral.step s c = (r.st, r.all)) (l1 : r.told.length ≤ 100) (l2 : r.asked.length ≤ 100)
    (q : PostT K CK CA CR H ka aa la rd xa ls lr s z c j Q) (h2 : Sit K CK CA CR H2 ka aa la rd xa ls lr s 0 [] xs j) (k : Keep H H2 [rd]) : Post CK CA H2 ka aa la ls lr r Q := by
  intro H3 p ls' lr' hK hA hp o1 o2 k3
  obtain ⟨a1, a2, a3, a4, a5⟩ := h2.apart
  obtain ⟨dr, hr⟩ := h2.hR.at_
  refine q H3 p ls' lr' r.told r.asked r.n (fun b => absurd b nb) (fun _ => ⟨by rw [e]; rfl, l1, l2⟩) (by rw [e]; exact hK) hA hp (h2.hR.keep k3 (by simp [a1, a2, a3])) ?_ ?_ ?_
  · rcases o1 with o | o
    · exact .inl o
    · exact .inr (rd_free k hr o)
  · rcases o2 with o | o
    · exact .inl o
    · exact .inr (rd_free k hr o)
  · refine (k.mono (ex' := [ka, aa, la, rd]) fun p hp => .inl ?_).trans k3 fun p hp => .inl ?_
    · rw [List.mem_singleton.mp hp]
      simp
    · rcases List.mem_cons.mp hp with z | z
      · simp [z]
      · rcases List.mem_cons.mp z with z | z
        · simp [z]
        · simp [List.mem_singleton.mp z]
theorem mName_at (s : S) (k : Nat) : (mName s k).told = (mName Ks191Neutral.start k).told ∧ (mName s k).n = (mName Ks191Neutral.start k).n ∧ (mName s k).asked = (mName Ks191Neutral.start k).asked ∧ (mName s k).st = s := by
  unfold mName
  by_cases c : 9999 < k
  · simp only [if_pos c, and_self]
  · simp only [if_neg c, and_self]
theorem short_name (s : S) (k : Nat) : (mName s k).told.length ≤ 100 ∧ (mName s k).asked.length ≤ 100 := by
  unfold mName
  split <;> exact ⟨Nat.le_of_ble_eq_true rfl, Nat.le_of_ble_eq_true rfl⟩
theorem short_seal (s : S) (y : Nat) (b : List Nat) : (mSeal s y b).told.length ≤ 100 ∧ (mSeal s y b).asked.length ≤ 100 := by
  unfold mSeal
  split <;> exact ⟨Nat.le_of_ble_eq_true rfl, Nat.le_of_ble_eq_true rfl⟩
theorem short_open (s : S) (y : Nat) : (mOpen s y).told.length ≤ 100 ∧ (mOpen s y).asked.length ≤ 100 := by
  unfold mOpen
  split
  · exact ⟨Nat.le_of_ble_eq_true rfl, Nat.le_of_ble_eq_true rfl⟩
  split
  · exact ⟨Nat.le_of_ble_eq_true rfl, Nat.le_of_ble_eq_true rfl⟩
  refine ⟨?_, Nat.le_of_ble_eq_true rfl⟩
  show (nInt (xr s.1.sealed_ (pd y))).length + 2 ≤ 100
  have e : (nInt (xr s.1.sealed_ (pd y))).length = (xr s.1.sealed_ (pd y)).length := List.length_map ..
  rw [e, xr_len]
  have : (pd y).length = 64 := by
    unfold pd
    rw [List.length_map, List.length_range]
  omega
theorem short_new (s : S) (x : Nat) (row : List Nat) (h : s.2.fit = true → x < P → s.2.state ≠ 1 → row.length = 11) : (mNew s x row).told.length ≤ 100 ∧ (mNew s x row).asked.length ≤ 100 := by
  unfold mNew
  by_cases c1 : s.2.fit = false
  · rw [if_pos c1]
    exact ⟨Nat.le_of_ble_eq_true rfl, Nat.le_of_ble_eq_true rfl⟩
  rw [if_neg c1]
  by_cases c2 : P ≤ x
  · rw [if_pos c2]
    exact ⟨Nat.le_of_ble_eq_true rfl, Nat.le_of_ble_eq_true rfl⟩
  rw [if_neg c2]
  by_cases c3 : s.2.state = 1
  · rw [if_pos c3]
    exact ⟨Nat.le_of_ble_eq_true rfl, Nat.le_of_ble_eq_true rfl⟩
  rw [if_neg c3]
  have e := h (by cases z : s.2.fit with | true => rfl | false => exact absurd z c1) (by omega) c3
  refine ⟨Nat.le_of_ble_eq_true rfl, ?_⟩
  show ((row.map fun _ => (5 : Int)) ++ [4, (Ks191.comes x row : Int)]).length ≤ 100
  rw [List.length_append, List.length_map, e]
  exact Nat.le_of_ble_eq_true rfl
theorem short_try (s : S) (x : Nat) : (mTry s x).told.length ≤ 100 ∧ (mTry s x).asked.length ≤ 100 := by
  unfold mTry
  split
  · exact ⟨Nat.le_of_ble_eq_true rfl, Nat.le_of_ble_eq_true rfl⟩
  split
  · exact ⟨Nat.le_of_ble_eq_true rfl, Nat.le_of_ble_eq_true rfl⟩
  split
  · exact ⟨Nat.le_of_ble_eq_true rfl, Nat.le_of_ble_eq_true rfl⟩
  split
  · exact ⟨Nat.le_of_ble_eq_true rfl, Nat.le_of_ble_eq_true rfl⟩
  exact ⟨Nat.le_of_ble_eq_true rfl, Nat.le_of_ble_eq_true rfl⟩
theorem mTry_asked (s : S) (x : Nat) : (mTry s x).n = 0 ∧ (mTry s x).asked = [] := by
  unfold mTry
  split
  · exact ⟨rfl, rfl⟩
  split
  · exact ⟨rfl, rfl⟩
  split
  · exact ⟨rfl, rfl⟩
  split
  · exact ⟨rfl, rfl⟩
  exact ⟨rfl, rfl⟩
theorem short_free (s : S) (x : Nat) : (mFree s x).told.length ≤ 100 ∧ (mFree s x).asked.length ≤ 100 := by
  unfold mFree
  split
  · exact ⟨Nat.le_of_ble_eq_true rfl, Nat.le_of_ble_eq_true rfl⟩
  split
  · exact ⟨Nat.le_of_ble_eq_true rfl, Nat.le_of_ble_eq_true rfl⟩
  split
  · exact ⟨Nat.le_of_ble_eq_true rfl, Nat.le_of_ble_eq_true rfl⟩
  split
  · exact ⟨Nat.le_of_ble_eq_true rfl, Nat.le_of_ble_eq_true rfl⟩
  exact ⟨Nat.le_of_ble_eq_true rfl, Nat.le_of_ble_eq_true rfl⟩
theorem mFree_asked (s : S) (x : Nat) : (mFree s x).n = 0 ∧ (mFree s x).asked = [] := by
  unfold mFree
  split
  · exact ⟨rfl, rfl⟩
  split
  · exact ⟨rfl, rfl⟩
  split
  · exact ⟨rfl, rfl⟩
  split
  · exact ⟨rfl, rfl⟩
  exact ⟨rfl, rfl⟩
theorem nInt_len (l : List Nat) : (nInt l).length = l.length := List.length_map ..
section
variable {P' : Program} {w : World} {K : PySem.W.Frag} {mg : Str → Option Value} {base : Heap} {f CK CA CR : Addr} {fd : FuncData}
theorem scPutC : FnScope ["kept", "reader", "pass_told", "tries", "state"] ["kept", "reader"] (defScope sPutC) := ⟨rfl, rfl, rfl, by decide +kernel, rfl, by decide +kernel, by decide +kernel⟩
theorem ok_putC (F : Fun K "put_counter" "put_counter" sPutC f fd) (TR : TxtR K CR) (MN : MethOk P' w K mg base CR "next_number" 1 ["self"] (spNum K CR)) (MR : MethOk P' w K mg base CR "next_row" 2 ["self"] (spRow K CR))
    (D : DefOk P' w K mg base "counter" 1 ["kept", "pass_told", "tries", "state", "row"] (spCounter K CK)) : FnOk P' w K mg base CX0 3 f fd ["kept", "reader"] (spPutC K CK CR) := by
  refine F.ok scPutC (fun vs H Q E h => ?_) (fun cdv A outer s H vs Q E hr h => ?_)
  · obtain ⟨ka, rd, xa, ls, lr, st, xs, r, i, m, t, z, row, rfl, _⟩ := h
    rfl
  · obtain ⟨ka, rd, xa, ls, lr, st, xs, r, i, m, t, z, row, rfl, hK, hR, hS, n1, n2, n3, hd, q⟩ := h
    have hr1 : Room 1 _ := hr.mono (by decide)
    refine ⟨_, pss_cons (ps_set (i := 2) scPutC.nd rfl (Or.inl rfl) (pe_methD0 (pv 1) TR.cl MN hr1))
      (pss_cons (ps_set (i := 3) scPutC.nd rfl (Or.inl rfl) (pe_methD0 (pv 1) TR.cl MN hr1))
      (pss_cons (ps_set (i := 4) scPutC.nd rfl (Or.inl rfl) (pe_methD0 (pv 1) TR.cl MN hr1))
      (pss_one (ps_ret (pe_callD D hr1 (by rfl) (pa_cons (pv 0) (pa_cons (pv 2) (pa_cons (pv 3) (pa_cons (pv 4) (pa_cons (pe_methD0 (pv 1) TR.cl MR hr) pa_nil)))))))))), ?_⟩
    obtain ⟨z0, hd1⟩ := drop_at hd
    obtain ⟨z1, hd2⟩ := drop_at hd1
    obtain ⟨z2, hd3⟩ := drop_at hd2
    obtain ⟨dr, hr0⟩ := hR.at_
    refine ⟨_, rfl, rd, dr, _, rfl, hr0, rF_no xa i (by decide +kernel), rd, xa, i, xs, _, rfl, hR, hS, z0, fun H1 hR1 k1 => ?_⟩
    have hS1 := k1.seq1 hS hr0
    obtain ⟨dr1, hr1'⟩ := hR1.at_
    refine ⟨_, rfl, rd, dr1, _, rfl, hr1', rF_no xa _ (by decide +kernel), rd, xa, i + 1, xs, _, rfl, hR1, hS1, z1, fun H2 hR2 k2 => ?_⟩
    have hS2 := k2.seq1 hS1 hr1'
    obtain ⟨dr2, hr2'⟩ := hR2.at_
    refine ⟨_, rfl, rd, dr2, _, rfl, hr2', rF_no xa _ (by decide +kernel), rd, xa, i + 1 + 1, xs, _, rfl, hR2, hS2, z2, fun H3 hR3 k3 => ?_⟩
    have hS3 := k3.seq1 hS2 hr2'
    obtain ⟨dr3, hr3'⟩ := hR3.at_
    refine ⟨_, rfl, _, rfl, _, rfl, _, rfl, _, rfl, rd, dr3, _, rfl, hr3', rF_no xa _ (by decide +kernel), rd, xa, i + 1 + 1 + 1, xs, nInt row, r, rfl, hR3, hS3, hd3, fun H4 sa fsa hR4 e4 k4 => ?_⟩
    have k04 : Keep H H4 [rd] := ((k1.trans k2 fun p hp => .inl hp).trans k3 fun p hp => .inl hp).trans k4 fun p hp => .inl hp
    have hK4 := hK.keep k04 (by simpa using n1.symm) (by simpa using n2.symm) (by simpa using n3.symm)
    refine ⟨ka, ls, lr, sa, st, m, t, z, row, rfl, hK4, SqL.of e4, fun H5 p lr' fp f5 hK5 e5 k5 => ?_⟩
    obtain ⟨dr4, hr4'⟩ := hR4.at_
    refine q H5 p lr' hK5 ?_ e5 (rd_free k04 hr4' fp) (rd_free k04 hr4' f5) ?_
    · rw [show i + 4 + (nInt row).length = i + 1 + 1 + 1 + 1 + (nInt row).length by omega]
      exact hR4.keep k5 (by simpa using n1)
    · exact (k04.mono (ex' := [ka, rd]) fun p hp => .inl (List.Mem.tail _ hp)).trans k5 fun p hp => .inl (by rw [List.mem_singleton.mp hp]; simp)
theorem nb {z : Int} (h0 : ¬ z = 6) (h1 : ¬ z = 7) (h2 : ¬ z = 8) : ¬ bare z := fun h => by
  rcases h with h | h | h
  · exact h0 h
  · exact h1 h
  · exact h2 h
theorem scTold : FnScope ["call", "kept", "asker", "reader", "y", "x", "mark"] ["call", "kept", "asker", "reader"] (defScope sTold) := ⟨rfl, rfl, rfl, by decide +kernel, rfl, by decide +kernel, by decide +kernel⟩
theorem ok_told (F : Fun K "told_by_call" "told_by_call" sTold f fd) (TR : TxtR K CR) (MN : MethOk P' w K mg base CR "next_number" 1 ["self"] (spNum K CR)) (MR : MethOk P' w K mg base CR "next_row" 2 ["self"] (spRow K CR))
    (D0 : DefOk P' w K mg base "name" 3 ["asker", "number"] (spName CA)) (D1 : DefOk P' w K mg base "seal" 3 ["kept", "asker", "y", "secret"] (spSeal K CK CA)) (D2 : DefOk P' w K mg base "open_box" 3 ["kept", "asker", "y"] (spOpen CK CA)) (D3 : DefOk P' w K mg base "new" 3 ["kept", "asker", "x", "script"] (spNew K CK CA)) (D4 : DefOk P' w K mg base "try_one" 2 ["kept", "x"] (spTry CK))
    (D5 : DefOk P' w K mg base "free" 2 ["kept", "pass_told"] (spFree CK)) (D6 : DefOk P' w K mg base "box" 1 ["kept", "mark", "sealed"] (spBox K CK)) (D7 : DefOk P' w K mg base "put_counter" 3 ["kept", "reader"] (spPutC K CK CR)) (D8 : DefOk P' w K mg base "look" 1 ["kept"] (spLook CK))
    (g0 : ∃ t, mg "NAME" = some (.int 0 t)) (g1 : ∃ t, mg "SEAL" = some (.int 1 t)) (g2 : ∃ t, mg "OPEN_BOX" = some (.int 2 t)) (g3 : ∃ t, mg "NEW" = some (.int 3 t)) (g4 : ∃ t, mg "TRY_ONE" = some (.int 4 t))
    (g5 : ∃ t, mg "FREE" = some (.int 5 t)) (g6 : ∃ t, mg "BOX" = some (.int 6 t)) (g7 : ∃ t, mg "COUNTER" = some (.int 7 t)) (g8 : ∃ t, mg "LOOK" = some (.int 8 t)) : FnOk P' w K mg base CX0 4 f fd ["call", "kept", "asker", "reader"] (spTold K CK CA CR) := by
  refine F.ok scTold (fun vs H Q E h => ?_) (fun cdv A outer s H vs Q E hr h => ?_)
  · obtain ⟨ka, aa, la, rd, xa, ls, lr, st, xs, tl, r, z, i, c, rfl, _⟩ := h
    rfl
  · obtain ⟨ka, aa, la, rd, xa, ls, lr, st, xs, tl, r, z, i, c, rfl, h0, he, hd, kind, hlen, q⟩ := h
    have hr1 : Room 1 _ := hr.mono (by decide)
    have hr2 : Room 2 _ := hr.mono (by decide)
    refine ⟨_, pss_cons (ps_if (pt_cmpR op_eq (pv 0) (pe_gl (by rfl) g0) (nomark _)) (pss_one (ps_ret (pe_callD D0 hr (by rfl) (pa_cons (pv 2) (pa_cons (pe_methD0 (pv 3) TR.cl MN hr1) pa_nil))))) pss_nil)
      (pss_cons (ps_if (pt_cmpR op_eq (pv 0) (pe_gl (by rfl) g1) (nomark _)) (pss_cons (ps_set (i := 4) scTold.nd rfl (Or.inl rfl) (pe_methD0 (pv 3) TR.cl MN hr1)) (pss_one (ps_ret (pe_callD D1 hr (by rfl) (pa_cons (pv 1) (pa_cons (pv 2) (pa_cons (pv 4) (pa_cons (pe_methD0 (pv 3) TR.cl MR hr2) pa_nil)))))))) pss_nil)
      (pss_cons (ps_if (pt_cmpR op_eq (pv 0) (pe_gl (by rfl) g2) (nomark _)) (pss_one (ps_ret (pe_callD D2 hr (by rfl) (pa_cons (pv 1) (pa_cons (pv 2) (pa_cons (pe_methD0 (pv 3) TR.cl MN hr1) pa_nil)))))) pss_nil)
      (pss_cons (ps_if (pt_cmpR op_eq (pv 0) (pe_gl (by rfl) g3) (nomark _)) (pss_cons (ps_set (i := 5) scTold.nd rfl (Or.inl rfl) (pe_methD0 (pv 3) TR.cl MN hr1)) (pss_one (ps_ret (pe_callD D3 hr (by rfl) (pa_cons (pv 1) (pa_cons (pv 2) (pa_cons (pv 5) (pa_cons (pe_methD0 (pv 3) TR.cl MR hr2) pa_nil)))))))) pss_nil)
      (pss_cons (ps_if (pt_cmpR op_eq (pv 0) (pe_gl (by rfl) g4) (nomark _)) (pss_one (ps_ret (pe_callD D4 hr2 (by rfl) (pa_cons (pv 1) (pa_cons (pe_methD0 (pv 3) TR.cl MN hr1) pa_nil))))) pss_nil)
      (pss_cons (ps_if (pt_cmpR op_eq (pv 0) (pe_gl (by rfl) g5) (nomark _)) (pss_one (ps_ret (pe_callD D5 hr2 (by rfl) (pa_cons (pv 1) (pa_cons (pe_methD0 (pv 3) TR.cl MN hr1) pa_nil))))) pss_nil)
      (pss_cons (ps_if (pt_cmpR op_eq (pv 0) (pe_gl (by rfl) g6) (nomark _)) (pss_cons (ps_set (i := 6) scTold.nd rfl (Or.inl rfl) (pe_methD0 (pv 3) TR.cl MN hr1)) (pss_one (ps_ret (pe_callD D6 hr1 (by rfl) (pa_cons (pv 1) (pa_cons (pv 6) (pa_cons (pe_methD0 (pv 3) TR.cl MR hr2) pa_nil))))))) pss_nil)
      (pss_cons (ps_if (pt_cmpR op_eq (pv 0) (pe_gl (by rfl) g7) (nomark _)) (pss_one (ps_ret (pe_callD D7 hr (by rfl) (pa_cons (pv 1) (pa_cons (pv 3) pa_nil))))) pss_nil)
      (pss_cons (ps_if (pt_cmpR op_eq (pv 0) (pe_gl (by rfl) g8) (nomark _)) (pss_one (ps_ret (pe_callD D8 hr1 (by rfl) (pa_cons (pv 1) pa_nil)))) pss_nil)
      (pss_one ps_never))))))))), ?_⟩
    obtain ⟨dr, hr0⟩ := h0.hR.at_
    cases kind with
    | name_ k =>
      obtain ⟨rfl, rfl⟩ := List.cons.inj (show (0 : Int) :: [(k : Int)] = z :: tl from he)
      have hd1 : xs.drop i = (k : Int) :: r := hd
      obtain ⟨z1, hd2⟩ := drop_at hd1
      refine ⟨_, rfl, rfl, _, rfl, if_t (eq_t rfl) ?_⟩
      refine ⟨_, rfl, _, rfl, rd, dr, _, rfl, hr0, rF_no xa i (by decide +kernel), rd, xa, i, xs, _, rfl, h0.hR, h0.hS, z1, fun H2 hR2 k2 => ?_⟩
      have h2 := h0.read k2 hR2
      refine ⟨aa, la, k, rfl, h2.hA, fun H3 p hA3 e3 k3 => ?_⟩
      obtain ⟨w1, w2, w3, w4⟩ := mName_at st k
      rw [← w2, ← w3] at hA3
      rw [← w1] at e3
      refine post_of (nb (by decide) (by decide) (by decide)) (step_name st k) (short_name st k).1 (short_name st k).2 q h2 k2 H3 p ls lr ?_ hA3 e3 (.inl rfl) (.inl rfl) (k3.mono fun p hp => .inl (List.Mem.tail _ hp))
      rw [w4]
      exact h2.hK.ask h2.hA k3 h2.n1 h2.n2
    | open_ y =>
      obtain ⟨rfl, rfl⟩ := List.cons.inj (show (2 : Int) :: [(y : Int)] = z :: tl from he)
      have hd1 : xs.drop i = (y : Int) :: r := hd
      obtain ⟨z1, hd2⟩ := drop_at hd1
      refine ⟨_, rfl, rfl, _, rfl, if_f (eq_f (by decide)) ?_⟩
      refine ⟨_, rfl, rfl, _, rfl, if_f (eq_f (by decide)) ?_⟩
      refine ⟨_, rfl, rfl, _, rfl, if_t (eq_t rfl) ?_⟩
      refine ⟨_, rfl, _, rfl, _, rfl, rd, dr, _, rfl, hr0, rF_no xa i (by decide +kernel), rd, xa, i, xs, _, rfl, h0.hR, h0.hS, z1, fun H2 hR2 k2 => ?_⟩
      have h2 := h0.read k2 hR2
      exact ⟨ka, aa, la, ls, lr, st, y, rfl, h2.hK, h2.hA, h2.n1, h2.n2, post_of (nb (by decide) (by decide) (by decide)) (step_open st y) (short_open st y).1 (short_open st y).2 q h2 k2⟩
    | try_ x =>
      obtain ⟨rfl, rfl⟩ := List.cons.inj (show (4 : Int) :: [(x : Int)] = z :: tl from he)
      have hd1 : xs.drop i = (x : Int) :: r := hd
      obtain ⟨z1, hd2⟩ := drop_at hd1
      refine ⟨_, rfl, rfl, _, rfl, if_f (eq_f (by decide)) ?_⟩
      refine ⟨_, rfl, rfl, _, rfl, if_f (eq_f (by decide)) ?_⟩
      refine ⟨_, rfl, rfl, _, rfl, if_f (eq_f (by decide)) ?_⟩
      refine ⟨_, rfl, rfl, _, rfl, if_f (eq_f (by decide)) ?_⟩
      refine ⟨_, rfl, rfl, _, rfl, if_t (eq_t rfl) ?_⟩
      refine ⟨_, rfl, _, rfl, rd, dr, _, rfl, hr0, rF_no xa i (by decide +kernel), rd, xa, i, xs, _, rfl, h0.hR, h0.hS, z1, fun H2 hR2 k2 => ?_⟩
      have h2 := h0.read k2 hR2
      refine ⟨ka, ls, lr, st, x, rfl, h2.hK, fun H3 p hK3 e3 k3 => ?_⟩
      obtain ⟨b1, b2, b3, b4⟩ := h2.hK.apart h2.hA
      obtain ⟨w1, w2⟩ := mTry_asked st x
      refine post_of (nb (by decide) (by decide) (by decide)) (step_try st x) (short_try st x).1 (short_try st x).2 q h2 k2 H3 p ls lr hK3 ?_ e3 (.inl rfl) (.inl rfl) (k3.mono fun p hp => .inl (by rw [List.mem_singleton.mp hp]; simp))
      rw [w1, w2]
      exact h2.hA.keep k3 (by simpa using b1.symm) (by simpa using b2.symm)
    | free_ m =>
      obtain ⟨rfl, rfl⟩ := List.cons.inj (show (5 : Int) :: [(m : Int)] = z :: tl from he)
      have hd1 : xs.drop i = (m : Int) :: r := hd
      obtain ⟨z1, hd2⟩ := drop_at hd1
      refine ⟨_, rfl, rfl, _, rfl, if_f (eq_f (by decide)) ?_⟩
      refine ⟨_, rfl, rfl, _, rfl, if_f (eq_f (by decide)) ?_⟩
      refine ⟨_, rfl, rfl, _, rfl, if_f (eq_f (by decide)) ?_⟩
      refine ⟨_, rfl, rfl, _, rfl, if_f (eq_f (by decide)) ?_⟩
      refine ⟨_, rfl, rfl, _, rfl, if_f (eq_f (by decide)) ?_⟩
      refine ⟨_, rfl, rfl, _, rfl, if_t (eq_t rfl) ?_⟩
      refine ⟨_, rfl, _, rfl, rd, dr, _, rfl, hr0, rF_no xa i (by decide +kernel), rd, xa, i, xs, _, rfl, h0.hR, h0.hS, z1, fun H2 hR2 k2 => ?_⟩
      have h2 := h0.read k2 hR2
      refine ⟨ka, ls, lr, st, m, rfl, h2.hK, fun H3 p hK3 e3 k3 => ?_⟩
      obtain ⟨b1, b2, b3, b4⟩ := h2.hK.apart h2.hA
      obtain ⟨w1, w2⟩ := mFree_asked st m
      refine post_of (nb (by decide) (by decide) (by decide)) (step_free st m) (short_free st m).1 (short_free st m).2 q h2 k2 H3 p ls lr hK3 ?_ e3 (.inl rfl) (.inl rfl) (k3.mono fun p hp => .inl (by rw [List.mem_singleton.mp hp]; simp))
      rw [w1, w2]
      exact h2.hA.keep k3 (by simpa using b1.symm) (by simpa using b2.symm)
    | seal_ y sec =>
      obtain ⟨rfl, rfl⟩ := List.cons.inj (show (1 : Int) :: (y : Int) :: ((nInt sec).length : Int) :: (nInt sec ++ []) = z :: tl from he)
      have hd1 : xs.drop i = (y : Int) :: ((nInt sec).length : Int) :: (nInt sec ++ r) := by
        rw [hd, List.append_nil]
        rfl
      obtain ⟨z1, hd2⟩ := drop_at hd1
      refine ⟨_, rfl, rfl, _, rfl, if_f (eq_f (by decide)) ?_⟩
      refine ⟨_, rfl, rfl, _, rfl, if_t (eq_t rfl) ?_⟩
      refine ⟨_, rfl, rd, dr, _, rfl, hr0, rF_no xa i (by decide +kernel), rd, xa, i, xs, _, rfl, h0.hR, h0.hS, z1, fun H2 hR2 k2 => ?_⟩
      have h2 := h0.read k2 hR2
      obtain ⟨dr2, hr2'⟩ := h2.hR.at_
      refine ⟨_, rfl, _, rfl, _, rfl, _, rfl, rd, dr2, _, rfl, hr2', rF_no xa _ (by decide +kernel), rd, xa, i + 1, xs, nInt sec, r, rfl, h2.hR, h2.hS, hd2, fun H3 sa fsa hR3 e3 k3 => ?_⟩
      have h3 := h2.read k3 hR3
      have k03 : Keep H H3 [rd] := k2.trans k3 fun p hp => .inl hp
      have ej : i + ((y : Int) :: ((nInt sec).length : Int) :: (nInt sec ++ [])).length = i + 1 + 1 + (nInt sec).length := by
        rw [List.append_nil]
        simp only [List.length_cons]
        omega
      rw [ej] at q
      refine ⟨ka, aa, la, ls, lr, sa, st, y, sec, rfl, h3.hK, h3.hA, h3.n1, h3.n2, SqL.of e3, ?_, post_of (nb (by decide) (by decide) (by decide)) (step_seal st y sec) (short_seal st y sec).1 (short_seal st y sec).2 q h3 k03⟩
      exact (ne_of_none h2.hA.li fsa).symm
    | new_ x row h11 =>
      obtain ⟨rfl, rfl⟩ := List.cons.inj (show (3 : Int) :: (x : Int) :: ((nInt row).length : Int) :: (nInt row ++ []) = z :: tl from he)
      have hd1 : xs.drop i = (x : Int) :: ((nInt row).length : Int) :: (nInt row ++ r) := by
        rw [hd, List.append_nil]
        rfl
      obtain ⟨z1, hd2⟩ := drop_at hd1
      refine ⟨_, rfl, rfl, _, rfl, if_f (eq_f (by decide)) ?_⟩
      refine ⟨_, rfl, rfl, _, rfl, if_f (eq_f (by decide)) ?_⟩
      refine ⟨_, rfl, rfl, _, rfl, if_f (eq_f (by decide)) ?_⟩
      refine ⟨_, rfl, rfl, _, rfl, if_t (eq_t rfl) ?_⟩
      refine ⟨_, rfl, rd, dr, _, rfl, hr0, rF_no xa i (by decide +kernel), rd, xa, i, xs, _, rfl, h0.hR, h0.hS, z1, fun H2 hR2 k2 => ?_⟩
      have h2 := h0.read k2 hR2
      obtain ⟨dr2, hr2'⟩ := h2.hR.at_
      refine ⟨_, rfl, _, rfl, _, rfl, _, rfl, rd, dr2, _, rfl, hr2', rF_no xa _ (by decide +kernel), rd, xa, i + 1, xs, nInt row, r, rfl, h2.hR, h2.hS, hd2, fun H3 sa fsa hR3 e3 k3 => ?_⟩
      have h3 := h2.read k3 hR3
      have k03 : Keep H H3 [rd] := k2.trans k3 fun p hp => .inl hp
      have ej : i + ((x : Int) :: ((nInt row).length : Int) :: (nInt row ++ [])).length = i + 1 + 1 + (nInt row).length := by
        rw [List.append_nil]
        simp only [List.length_cons]
        omega
      rw [ej] at q
      refine ⟨ka, aa, la, ls, lr, sa, st, x, row, rfl, h3.hK, h3.hA, h3.n1, h3.n2, SqL.of e3, ?_, h11, post_of (nb (by decide) (by decide) (by decide)) (step_new st x row) (short_new st x row h11).1 (short_new st x row h11).2 q h3 k03⟩
      exact (ne_of_none h2.hA.li fsa).symm
    | box_ m b =>
      obtain ⟨rfl, rfl⟩ := List.cons.inj (show (6 : Int) :: (m : Int) :: ((nInt b).length : Int) :: (nInt b ++ []) = z :: tl from he)
      have hd1 : xs.drop i = (m : Int) :: ((nInt b).length : Int) :: (nInt b ++ r) := by
        rw [hd, List.append_nil]
        rfl
      obtain ⟨z1, hd2⟩ := drop_at hd1
      refine ⟨_, rfl, rfl, _, rfl, if_f (eq_f (by decide)) ?_⟩
      refine ⟨_, rfl, rfl, _, rfl, if_f (eq_f (by decide)) ?_⟩
      refine ⟨_, rfl, rfl, _, rfl, if_f (eq_f (by decide)) ?_⟩
      refine ⟨_, rfl, rfl, _, rfl, if_f (eq_f (by decide)) ?_⟩
      refine ⟨_, rfl, rfl, _, rfl, if_f (eq_f (by decide)) ?_⟩
      refine ⟨_, rfl, rfl, _, rfl, if_f (eq_f (by decide)) ?_⟩
      refine ⟨_, rfl, rfl, _, rfl, if_t (eq_t rfl) ?_⟩
      refine ⟨_, rfl, rd, dr, _, rfl, hr0, rF_no xa i (by decide +kernel), rd, xa, i, xs, _, rfl, h0.hR, h0.hS, z1, fun H2 hR2 k2 => ?_⟩
      have h2 := h0.read k2 hR2
      obtain ⟨dr2, hr2'⟩ := h2.hR.at_
      refine ⟨_, rfl, _, rfl, _, rfl, rd, dr2, _, rfl, hr2', rF_no xa _ (by decide +kernel), rd, xa, i + 1, xs, nInt b, r, rfl, h2.hR, h2.hS, hd2, fun H3 sa fsa hR3 e3 k3 => ?_⟩
      have h3 := h2.read k3 hR3
      have k03 : Keep H H3 [rd] := k2.trans k3 fun p hp => .inl hp
      have ej : i + ((m : Int) :: ((nInt b).length : Int) :: (nInt b ++ [])).length = i + 1 + 1 + (nInt b).length := by
        rw [List.append_nil]
        simp only [List.length_cons]
        omega
      rw [ej] at q
      obtain ⟨a1, a2, a3, a4, a5⟩ := h3.apart
      obtain ⟨b1, b2, b3, b4⟩ := h3.hK.apart h3.hA
      obtain ⟨dr3, hr3'⟩ := h3.hR.at_
      refine ⟨ka, ls, lr, sa, st, m, b, rfl, h3.hK, SqL.of e3, fun H4 p ls' fp f4 hK4 e4 k4 => ?_⟩
      refine q H4 p ls' lr [0] [] 0 (fun _ => ⟨by rw [step_box], rd_free k03 hr3' fp⟩) (fun n => absurd (.inl rfl) n) (by rw [step_box]; exact hK4) (h3.hA.keep k4 (by simpa using b1.symm) (by simpa using b2.symm)) e4 (h3.hR.keep k4 (by simpa using a1)) (.inr (rd_free k03 hr3' f4)) (.inl rfl) ?_
      exact (k03.mono (ex' := [ka, aa, la, rd]) fun p hp => .inl (by rw [List.mem_singleton.mp hp]; simp)).trans k4 fun p hp => .inl (by rw [List.mem_singleton.mp hp]; simp)
    | counter_ m t u row =>
      obtain ⟨rfl, rfl⟩ := List.cons.inj (show (7 : Int) :: (m : Int) :: (t : Int) :: (u : Int) :: ((nInt row).length : Int) :: (nInt row ++ []) = z :: tl from he)
      have hd1 : xs.drop i = (m : Int) :: (t : Int) :: (u : Int) :: ((nInt row).length : Int) :: (nInt row ++ r) := by
        rw [hd, List.append_nil]
        rfl
      refine ⟨_, rfl, rfl, _, rfl, if_f (eq_f (by decide)) ?_⟩
      refine ⟨_, rfl, rfl, _, rfl, if_f (eq_f (by decide)) ?_⟩
      refine ⟨_, rfl, rfl, _, rfl, if_f (eq_f (by decide)) ?_⟩
      refine ⟨_, rfl, rfl, _, rfl, if_f (eq_f (by decide)) ?_⟩
      refine ⟨_, rfl, rfl, _, rfl, if_f (eq_f (by decide)) ?_⟩
      refine ⟨_, rfl, rfl, _, rfl, if_f (eq_f (by decide)) ?_⟩
      refine ⟨_, rfl, rfl, _, rfl, if_f (eq_f (by decide)) ?_⟩
      refine ⟨_, rfl, rfl, _, rfl, if_t (eq_t rfl) ?_⟩
      obtain ⟨a1, a2, a3, a4, a5⟩ := h0.apart
      obtain ⟨b1, b2, b3, b4⟩ := h0.hK.apart h0.hA
      have ej : i + ((m : Int) :: (t : Int) :: (u : Int) :: ((nInt row).length : Int) :: (nInt row ++ [])).length = i + 4 + (nInt row).length := by
        rw [List.append_nil]
        simp only [List.length_cons]
        omega
      rw [ej] at q
      refine ⟨_, rfl, _, rfl, ka, rd, xa, ls, lr, st, xs, r, i, m, t, u, row, rfl, h0.hK, h0.hR, h0.hS, a1, a4, a5, hd1, fun H4 p lr' hK4 hR4 e4 fp f4 k4 => ?_⟩
      refine q H4 p ls lr' [0] [] 0 (fun _ => ⟨by rw [step_counter], fp⟩) (fun n => absurd (.inr (.inl rfl)) n) (by rw [step_counter]; exact hK4) (h0.hA.keep k4 (by simp [b1.symm, a2.symm]) (by simp [b2.symm, a3.symm])) e4 hR4 (.inl rfl) (.inr f4) ?_
      exact k4.mono fun p hp => .inl (by
        rcases List.mem_cons.mp hp with e | e
        · simp [e]
        · simp [List.mem_singleton.mp e])
    | look_ =>
      obtain ⟨rfl, rfl⟩ := List.cons.inj (show (8 : Int) :: ([] : List Int) = z :: tl from he)
      refine ⟨_, rfl, rfl, _, rfl, if_f (eq_f (by decide)) ?_⟩
      refine ⟨_, rfl, rfl, _, rfl, if_f (eq_f (by decide)) ?_⟩
      refine ⟨_, rfl, rfl, _, rfl, if_f (eq_f (by decide)) ?_⟩
      refine ⟨_, rfl, rfl, _, rfl, if_f (eq_f (by decide)) ?_⟩
      refine ⟨_, rfl, rfl, _, rfl, if_f (eq_f (by decide)) ?_⟩
      refine ⟨_, rfl, rfl, _, rfl, if_f (eq_f (by decide)) ?_⟩
      refine ⟨_, rfl, rfl, _, rfl, if_f (eq_f (by decide)) ?_⟩
      refine ⟨_, rfl, rfl, _, rfl, if_f (eq_f (by decide)) ?_⟩
      refine ⟨_, rfl, rfl, _, rfl, if_t (eq_t rfl) ?_⟩
      refine ⟨_, rfl, ka, ls, lr, st, rfl, h0.hK, hlen, fun H4 p fp hK4 e4 k4 => ?_⟩
      exact q H4 p ls lr (look st) [] 0 (fun _ => ⟨rfl, fp⟩) (fun n => absurd (.inr (.inr rfl)) n) hK4 (h0.hA.keep k4 (by simp) (by simp)) e4 (h0.hR.keep k4 (by simp)) (.inl rfl) (.inl rfl) (k4.mono fun _ hp => by cases hp)
end
end Ten

set_option Elab.async false
set_option linter.all false
set_option maxRecDepth 100000
set_option maxHeartbeats 4000000
namespace Ten
open PySem PySem.Spec PyProof.Rows L2
open Ks191Neutral (S)
open PyFlat (put put1)
/-! ### a whole answer; all answers -/
def spCall (K : PySem.W.Frag) (CK CR : Addr) : Sp := fun vs H Q _ => ∃ (ka rd xa ls lr : Addr) (s : S) (xs r : List Int) (i : Nat) (c : List (List Int)), vs = [.ref ka, .ref rd] ∧ KeptAt CK H ka ls lr s ∧ ReadAt CR H rd xa i ∧ SqL K H xa (vI xs) ∧ xs.drop i = put1 c ++ r ∧ Kind s c ∧ (Ks191Neutral.step s c).2.length ≤ 10000000 ∧
  ∀ (H' : Hp) (p ls' lr' : Addr), H p = none → H' p = some (.lst (vI (Ks191Neutral.step s c).2)) → KeptAt CK H' ka ls' lr' (Ks191Neutral.step s c).1 → ReadAt CR H' rd xa (i + (put1 c).length) → (ls' = ls ∨ H ls' = none) → (lr' = lr ∨ H lr' = none) → Keep H H' [ka, rd] → Q (.ref p) H'
def spAns (K : PySem.W.Frag) : Sp := fun vs H Q _ => ∃ (xa : Addr) (xs : List Int), vs = [.ref xa] ∧ SqL K H xa (vI xs) ∧ (∀ x ∈ xs, 0 ≤ x) ∧ PyKs191.answers_asked xs = true ∧
  ∀ (H' : Hp) (p : Addr), H' p = some (.lst (vI (PyKs191.answers xs))) → Q (.ref p) H'
/-- a new instance and its __init__ -/
theorem Keep.made {H H1 : Hp} {x dx C : Addr} (nx : H x = none) (nd : H dx = none) (k : Keep (upd (upd H dx (.own x)) x (.ins C dx [])) H1 [x]) : Keep H H1 [] :=
  (((Keep.refl H []).store (.inr nd)).store (.inr nx)).trans k fun p hp => .inr (by rw [List.mem_singleton.mp hp]; exact nx)
theorem made_free {H : Hp} {x dx p C : Addr} (n : upd (upd H dx (.own x)) x (.ins C dx []) p = none) : H p = none := by
  have e1 : p ≠ x := fun e => by
    rw [e, upd_same] at n
    cases n
  rw [upd_ne e1] at n
  have e2 : p ≠ dx := fun e => by
    rw [e, upd_same] at n
    cases n
  rw [upd_ne e2] at n
  exact n
section
variable {P' : Program} {w : World} {K : PySem.W.Frag} {mg : Str → Option Value} {base : Heap} {f CK CA CR : Addr} {fd : FuncData}
theorem kind_head {s : S} {c : List (List Int)} (h : Kind s c) : ∃ z tl, put1 c = z :: tl := by
  cases h <;> exact ⟨_, _, rfl⟩
theorem bare_in (z : Int) : inV (V.int z) [V.int 6, V.int 7, V.int 8] = true ↔ bare z := by
  unfold bare
  show (((6 : Int) == z) || (((7 : Int) == z) || (((8 : Int) == z) || false))) = true ↔ _
  rw [Bool.or_false, Bool.or_eq_true, Bool.or_eq_true, beq_iff_eq, beq_iff_eq, beq_iff_eq]
  exact ⟨fun h => h.imp Eq.symm (Or.imp Eq.symm Eq.symm), fun h => h.imp Eq.symm (Or.imp Eq.symm Eq.symm)⟩
theorem scCall : FnScope ["kept", "reader", "call", "asker", "told"] ["kept", "reader"] (defScope sCall) := ⟨rfl, rfl, rfl, by decide +kernel, rfl, by decide +kernel, by decide +kernel⟩
theorem ok_call (F : Fun K "answer_call" "answer_call" sCall f fd) (TA : TxtA K CA) (TR : TxtR K CR) (MN : MethOk P' w K mg base CR "next_number" 1 ["self"] (spNum K CR)) (MA : MakeOk P' w K mg base "Asker" CA 1 ["self"] (spAInit CA)) (D : DefOk P' w K mg base "told_by_call" 4 ["call", "kept", "asker", "reader"] (spTold K CK CA CR))
    (g6 : ∃ t, mg "BOX" = some (.int 6 t)) (g7 : ∃ t, mg "COUNTER" = some (.int 7 t)) (g8 : ∃ t, mg "LOOK" = some (.int 8 t)) : FnOk P' w K mg base CX0 5 f fd ["kept", "reader"] (spCall K CK CR) := by
  refine F.ok scCall (fun vs H Q E h => ?_) (fun cdv A outer s H vs Q E hr h => ?_)
  · obtain ⟨ka, rd, xa, ls, lr, st, xs, r, i, c, rfl, _⟩ := h
    rfl
  · obtain ⟨ka, rd, xa, ls, lr, st, xs, r, i, c, rfl, hK, hR, hS, hd, kind, hlen, q⟩ := h
    refine ⟨_, pss_cons (ps_set (i := 2) scCall.nd rfl (Or.inl rfl) (pe_methD0 (pv 1) TR.cl MN (hr.mono (by decide))))
      (pss_cons (ps_set (i := 3) scCall.nd rfl (Or.inl rfl) (pe_makeD0 MA (hr.mono (by decide)) (by rfl)))
      (pss_cons (ps_set (i := 4) scCall.nd rfl (Or.inl rfl) (pe_callD D hr (by rfl) (pa_cons (pv 2) (pa_cons (pv 0) (pa_cons (pv 3) (pa_cons (pv 1) pa_nil))))))
      (pss_cons (ps_if (pt_cmpR op_in_seq (pv 2) (pe_tup (pa_cons (pe_gl (by rfl) g6) (pa_cons (pe_gl (by rfl) g7) (pa_cons (pe_gl (by rfl) g8) pa_nil)))) (by rfl)) (pss_one (ps_ret (pv 4))) pss_nil)
      (pss_one (ps_ret (pe_op op_cat (pe_op op_cat (pv 4) (pe_lst (pa_cons (pe_fld (pv 3) rfl) pa_nil))) (pe_fld (pv 3) rfl))))))), ?_⟩
    -- call = reader.next_number()
    obtain ⟨z, tl, he⟩ := kind_head kind
    rw [he] at hd q
    obtain ⟨z0, hd1⟩ := drop_at (show xs.drop i = z :: (tl ++ r) from hd)
    obtain ⟨dr0, hr0⟩ := hR.at_
    obtain ⟨dk0, hk0⟩ := hK.at_
    refine ⟨_, rfl, rd, dr0, _, rfl, hr0, rF_no xa i (by decide +kernel), rd, xa, i, xs, _, rfl, hR, hS, z0, fun H0 hR0 k0 => ?_⟩
    have hS0 := k0.seq1 hS hr0
    have nkr : rd ≠ ka := ne_of hr0 hk0 (by intro z; injection z with z1 z2 z3; exact absurd (congrArg List.length z3) (by show ¬ 2 = 6; decide))
    have hK0 := hK.keep k0 (by simpa using nkr.symm) (by simpa using (ne_of hr0 hK.box (by intro z; cases z)).symm) (by simpa using (ne_of hr0 hK.row (by intro z; cases z)).symm)
    obtain ⟨dr0', hr0'⟩ := hR0.at_
    -- asker = Asker()
    intro aa da naa nda nea
    refine ⟨aa, da, rfl, upd_same, fun H1 la nla hA1 k1 => ⟨rfl, ?_⟩⟩
    have k01 := Keep.made naa nda k1
    have nla0 := made_free nla
    have hK1 := hK0.keep k01 (by simp) (by simp) (by simp)
    have hR1 := hR0.keep k01 (by simp)
    have hS1 : SqL K H1 xa (vI xs) := k01.seq hS0 fun _ hp => by cases hp
    have old0 : ∀ b, H0 b = none → H b = none := fun b e => rd_free k0 hr0' e
    have kH1 : Keep H H1 [ka, rd] := (k0.mono (ex' := [ka, rd]) fun p hp => .inl (List.Mem.tail _ hp)).trans k01 fun _ hp => by cases hp
    refine ⟨_, rfl, _, rfl, _, rfl, _, rfl, ka, aa, la, rd, xa, ls, lr, st, xs, tl, r, z, i + 1, c, rfl, ⟨hK1, hA1, hR1, hS1, (ne_of_none hK0.box nla0).symm, (ne_of_none hK0.row nla0).symm⟩, he, hd1, kind, hlen, ?_⟩
    intro H2 p ls' lr' told asked n e0 e1 hK2 hA2 hp hR2 o1 o2 k2
    have k02 : Keep H H2 [ka, rd] := kH1.trans k2 fun p hp => by
      rcases List.mem_cons.mp hp with z | z
      · exact .inl (by simp [z])
      rcases List.mem_cons.mp z with z | z
      · exact .inr (by rw [z]; exact old0 _ naa)
      rcases List.mem_cons.mp z with z | z
      · exact .inr (by rw [z]; exact old0 _ nla0)
      · exact .inl (by simp [List.mem_singleton.mp z])
    have old : ∀ b, H1 b = none → H b = none := fun b e => old0 b (k01.free e (by simp))
    have ol1 : ls' = ls ∨ H ls' = none := o1.imp id (old _)
    have ol2 : lr' = lr ∨ H lr' = none := o2.imp id (old _)
    have ej : i + 1 + tl.length = i + (z :: tl).length := by
      rw [List.length_cons]
      omega
    rw [ej] at hR2
    -- call in (BOX, COUNTER, LOOK)
    refine ⟨_, rfl, (by show 3 ≤ sizeLine; decide), fun t0 f0 => ?_⟩
    have hK3 := hK2.keep (Keep.new (ex := []) (o := .tup [V.int 6, V.int 7, V.int 8]) f0) (by simp) (by simp) (by simp)
    have hA3 := hA2.keep (Keep.new (ex := []) (o := .tup [V.int 6, V.int 7, V.int 8]) f0) (by simp) (by simp)
    have hR3 := hR2.keep (Keep.new (ex := []) (o := .tup [V.int 6, V.int 7, V.int 8]) f0) (by simp)
    have hp3 : upd H2 t0 (.tup [V.int 6, V.int 7, V.int 8]) p = some (.lst (vI told)) := by
      rw [upd_ne (ne_of_none hp f0)]
      exact hp
    have k03 : Keep H (upd H2 t0 (.tup [V.int 6, V.int 7, V.int 8])) [ka, rd] := k02.trans (Keep.new (ex := []) f0) fun _ hp => by cases hp
    refine ⟨t0, _, rfl, .inr (SqT.of upd_same), rfl, rfl, _, rfl, ?_⟩
    show if inV (V.int z) [V.int 6, V.int 7, V.int 8] = true then _ else _
    generalize upd H2 t0 (.tup [V.int 6, V.int 7, V.int 8]) = H3 at hK3 hA3 hR3 hp3 k03 ⊢
    by_cases cb : bare z
    · refine if_t ((bare_in z).mpr cb) ?_
      obtain ⟨e0, fp⟩ := e0 cb
      rw [e0] at hp3
      exact ⟨_, rfl, q _ p ls' lr' (old _ fp) hp3 hK3 hR3 ol1 ol2 k03⟩
    refine if_f (by
      cases e : inV (V.int z) [V.int 6, V.int 7, V.int 8] with
      | false => rfl
      | true => exact absurd ((bare_in z).mp e) cb) ?_
    obtain ⟨e1, l1, l2⟩ := e1 cb
    -- told + [asker.how_many]
    obtain ⟨da3, ha3⟩ := hA3.at_
    refine ⟨_, rfl, _, rfl, aa, CA, da3, _, _, rfl, ha3, TA.cl, TA.nHow, aF_how n la, (by show 1 ≤ sizeLine; decide), fun t1 f1 => ?_⟩
    have hK4 := hK3.keep (Keep.new (ex := []) (o := .lst [V.int (n : Int)]) f1) (by simp) (by simp) (by simp)
    have hA4 := hA3.keep (Keep.new (ex := []) (o := .lst [V.int (n : Int)]) f1) (by simp) (by simp)
    have hR4 := hR3.keep (Keep.new (ex := []) (o := .lst [V.int (n : Int)]) f1) (by simp)
    have hp4 : upd H3 t1 (.lst [V.int (n : Int)]) p = some (.lst (vI told)) := by
      rw [upd_ne (ne_of_none hp3 f1)]
      exact hp3
    have t4 : upd H3 t1 (.lst [V.int (n : Int)]) t1 = some (.lst [V.int (n : Int)]) := upd_same
    have k04 : Keep H (upd H3 t1 (.lst [V.int (n : Int)])) [ka, rd] := k03.trans (Keep.new (ex := []) f1) fun _ hp => by cases hp
    generalize upd H3 t1 (.lst [V.int (n : Int)]) = H4 at hK4 hA4 hR4 hp4 t4 k04 ⊢
    refine ⟨p, t1, _, _, rfl, rfl, hp4, t4, (by rw [vI_len]; show told.length + 1 ≤ sizeLine; exact Nat.le_of_lt (small1000 (by omega))), fun t2 f2 => ?_⟩
    have hK5 := hK4.keep (Keep.new (ex := []) (o := .lst (vI told ++ [V.int (n : Int)])) f2) (by simp) (by simp) (by simp)
    have hA5 := hA4.keep (Keep.new (ex := []) (o := .lst (vI told ++ [V.int (n : Int)])) f2) (by simp) (by simp)
    have hR5 := hR4.keep (Keep.new (ex := []) (o := .lst (vI told ++ [V.int (n : Int)])) f2) (by simp)
    have t5 : upd H4 t2 (.lst (vI told ++ [V.int (n : Int)])) t2 = some (.lst (vI told ++ [V.int (n : Int)])) := upd_same
    have k05 : Keep H (upd H4 t2 (.lst (vI told ++ [V.int (n : Int)]))) [ka, rd] := k04.trans (Keep.new (ex := []) f2) fun _ hp => by cases hp
    generalize upd H4 t2 (.lst (vI told ++ [V.int (n : Int)])) = H5 at hK5 hA5 hR5 t5 k05 ⊢
    obtain ⟨da5, ha5⟩ := hA5.at_
    refine ⟨_, rfl, aa, CA, da5, _, _, rfl, ha5, TA.cl, TA.nAsked, aF_asked n la, t2, la, _, _, rfl, rfl, t5, hA5.li, ?_, fun p6 f6 => ?_⟩
    · rw [vI_len, List.length_append, vI_len]
      show told.length + 1 + asked.length ≤ sizeLine
      exact Nat.le_of_lt (small1000 (by omega))
    · have e6 : upd H5 p6 (.lst (vI told ++ [V.int (n : Int)] ++ vI asked)) p6 = some (.lst (vI (Ks191Neutral.step st c).2)) := by
        rw [upd_same, ← e1]
        unfold vI
        rw [List.map_append, List.append_assoc]
        rfl
      obtain ⟨dk, hk⟩ := hK5.at_
      obtain ⟨dr, hr'⟩ := hR5.at_
      have f6' : H p6 = none := k05.free f6 fun m => by
        rcases List.mem_cons.mp m with z | z
        · rw [z, hk] at f6
          cases f6
        · rw [List.mem_singleton.mp z, hr'] at f6
          cases f6
      exact q _ p6 ls' lr' f6' e6 (hK5.keep (Keep.new (ex := []) f6) (by simp) (by simp) (by simp)) (hR5.keep (Keep.new (ex := []) f6) (by simp)) ol1 ol2 (k05.trans (Keep.new (ex := []) f6) fun _ hp => by cases hp)
theorem scAns : FnScope ["calls", "kept", "reader", "given", "answer"] ["calls"] (defScope sAns) := ⟨rfl, rfl, rfl, by decide +kernel, rfl, by decide +kernel, by decide +kernel⟩
theorem ok_ans (F : Fun K "answers" "answers" sAns f fd) (TR : TxtR K CR) (MK : MakeOk P' w K mg base "Kept" CK 1 ["self"] (spKInit CK)) (MR : MakeOk P' w K mg base "Reader" CR 1 ["self", "numbers"] (spRInit CR)) (MM : MethOk P' w K mg base CR "has_more" 1 ["self"] (spMore K CR)) (D : DefOk P' w K mg base "answer_call" 5 ["kept", "reader"] (spCall K CK CR)) (mL : mg "len" = none) :
    FnOk P' w K mg base CX0 6 f fd ["calls"] (spAns K) := by
  refine F.ok scAns (fun vs H Q E h => ?_) (fun cdv A outer s H vs Q E hr h => ?_)
  · obtain ⟨xa, xs, rfl, _⟩ := h
    rfl
  · obtain ⟨xa, xs, rfl, hS, hpos, hask, q⟩ := h
    have hr1 : Room 1 _ := hr.mono (by decide)
    have hr2 : Room 2 _ := hr.mono (by decide)
    refine ⟨_, pss_cons (ps_set (i := 1) scAns.nd rfl (Or.inl rfl) (pe_makeD0 MK hr2 (by rfl)))
      (pss_cons (ps_set (i := 2) scAns.nd rfl (Or.inl rfl) (pe_makeD MR hr2 (by rfl) (pa_cons (pv 0) pa_nil)))
      (pss_cons (ps_set (i := 3) scAns.nd rfl (Or.inl rfl) (pe_lst pa_nil))
      (pss_cons (ps_while PassesOwn.never (pt_val (pe_methD0 (pv 2) TR.cl MM hr1))
        (pss_cons (ps_set (i := 4) scAns.nd rfl (Or.inl rfl) (pe_callD D hr (by rfl) (pa_cons (pv 1) (pa_cons (pv 2) pa_nil))))
        (pss_cons (ps_expr (pe_bm PySem.F.plainAttrs_list PySem.F.slot_list_append PySem.F.type_list_append mt_append (pv 3) (pa_cons (pe_callB call_len_seq (by rfl) mL PySem.boot_len (pa_cons (pv 4) pa_nil)) pa_nil)))
        (pss_one (ps_expr (pe_bm PySem.F.plainAttrs_list PySem.F.slot_list_extend PySem.F.type_list_extend mt_extend (pv 3) (pa_cons (pv 4) pa_nil)))))))
      (pss_one (ps_ret (pv 3)))))), ?_⟩
    obtain ⟨cs, w0⟩ := Walk.begin hpos hask
    intro ka dk nka ndk nek
    refine ⟨ka, dk, rfl, upd_same, fun H1 ls lr nls nlr hK1 k1 => ⟨rfl, ?_⟩⟩
    have k01 := Keep.made nka ndk k1
    have hS1 : SqL K H1 xa (vI xs) := k01.seq hS fun _ hp => by cases hp
    refine ⟨_, rfl, ?_⟩
    intro rd dr nrd ndr ner
    refine ⟨rd, dr, xa, rfl, upd_same, fun H2 hR2 k2 => ⟨rfl, ?_⟩⟩
    have k12 := Keep.made nrd ndr k2
    have hS2 : SqL K H2 xa (vI xs) := k12.seq hS1 fun _ hp => by cases hp
    have hK2 := hK1.keep k12 (by simp) (by simp) (by simp)
    refine ⟨Nat.zero_le _, fun g ng => ?_⟩
    have hX : xa ≠ g ∨ SqL K (fun _ => none) xa (vI xs) := by
      rcases hS2 with (e | ⟨o, e⟩) | e
      · exact .inl (ne_of_none e ng)
      · exact .inl (ne_of_none e ng)
      · exact .inr (.inr e)
    have still : ∀ {Ha Hb : Hp} {ex : List Addr}, Keep Ha Hb ex → SqL K Ha xa (vI xs) → (∀ p ∈ ex, Ha p = none ∨ (∃ C dx fs, Ha p = some (.ins C dx fs)) ∨ p = g) → SqL K Hb xa (vI xs) := fun {Ha Hb ex} k h n => by
      rcases hX with e | e
      · exact k.seq h fun p hp => (n p hp).imp id (fun z => z.imp id fun z => by rw [z]; exact e)
      · exact (Keep.seq (H := fun _ => none) (ex := []) (fun _ _ z => by cases z) e fun _ hp => by cases hp)
    refine ⟨fun m σ H' => ∃ (v : Option V) (ls lr : Addr) (i : Nat) (given : List Int) (s : S) (cs : List (List (List Int))), m = xs.length - i ∧ σ = [some (.ref xa), some (.ref ka), some (.ref rd), some (.ref g), v] ∧ KeptAt CK H' ka ls lr s ∧ ReadAt CR H' rd xa i ∧ SqL K H' xa (vI xs) ∧
      H' g = some (.lst (vI given)) ∧ g ≠ ls ∧ g ≠ lr ∧ Walk xs (PyKs191.answers xs) i given s cs, ⟨xs.length - 0, none, ls, lr, 0, [], Ks191Neutral.start, cs, rfl, rfl, ?_, ?_, ?_, upd_same, ?_, ?_, w0⟩, ?_⟩
    · exact hK2.keep (Keep.new (ex := []) ng) (by simp) (by simp) (by simp)
    · exact hR2.keep (Keep.new (ex := []) ng) (by simp)
    · exact (Keep.new (ex := []) ng).seq hS2 fun _ hp => by cases hp
    · exact (ne_of_none hK2.box ng).symm
    · exact (ne_of_none hK2.row ng).symm
    rintro m σ H3 ⟨v, ls, lr, i, given, st, cs, rfl, rfl, hK, hR, hX3, hg, n1, n2, wk⟩
    obtain ⟨dr, hr3⟩ := hR.at_
    refine ⟨_, rfl, rd, dr, _, rfl, hr3, rF_no xa i (by decide +kernel), rd, xa, i, xs, rfl, hR, hX3, _, rfl, ?_⟩
    by_cases c : i < xs.length
    · refine if_t (decide_eq_true (by omega)) ?_
      obtain ⟨c, cs', rfl, kind, hd, ⟨z, hz⟩, wk'⟩ := wk.next c
      obtain ⟨dk3, hk3⟩ := hK.at_
      have ngk : g ≠ ka := (ne_of hk3 hg (by intro z; cases z)).symm
      have ngr : g ≠ rd := (ne_of hr3 hg (by intro z; cases z)).symm
      refine ⟨_, fun σ' H' h => h, ?_⟩
      have hlen : (Ks191Neutral.step st c).2.length ≤ 10000000 := by
        have room := congrArg List.length hz
        rw [List.length_append, List.length_append, List.length_cons] at room
        have sm := wk'.small
        omega
      refine ⟨_, rfl, _, rfl, ka, rd, xa, ls, lr, st, xs, PyFlat.put cs', i, c, rfl, hK, hR, hX3, hd, kind, hlen, fun H4 p ls' lr' fp hp hK4 hR4 o1 o2 k4 => ?_⟩
      have hX4 : SqL K H4 xa (vI xs) := still k4 hX3 fun p hp => by
        rcases List.mem_cons.mp hp with e | e
        · exact .inr (.inl ⟨_, _, _, by rw [e]; exact hk3⟩)
        · exact .inr (.inl ⟨_, _, _, by rw [List.mem_singleton.mp e]; exact hr3⟩)
      have hg4 : H4 g = some (.lst (vI given)) := k4 _ _ hg (by simp [ngk, ngr])
      have gp : g ≠ p := ne_of_none hg fp
      have m1 : g ≠ ls' := by
        rcases o1 with e | e
        · rw [e]
          exact n1
        · exact ne_of_none hg e
      have m2 : g ≠ lr' := by
        rcases o2 with e | e
        · rw [e]
          exact n2
        · exact ne_of_none hg e
      have room := congrArg List.length hz
      rw [List.length_append, List.length_append] at room
      have sm := wk'.small
      generalize ea : (Ks191Neutral.step st c).2 = ans at *
      generalize (Ks191Neutral.step st c).1 = st' at *
      rw [List.length_cons] at room
      have big : ∀ n : Nat, n ≤ 10000000 → n < sizeLine := fun n h => Nat.lt_of_le_of_lt h (by decide)
      refine ⟨_, rfl, .inl ⟨rfl, _, SqL.of hg4⟩, _, rfl, p, _, rfl, .inl (SqL.of hp), g, _, _, rfl, rfl, hg4, big _ (by rw [vI_len]; omega), ?_⟩
      have g5 : upd H4 g (.lst (vI given ++ [V.int ((vI ans).length : Int)])) g = some (.lst (vI given ++ [V.int ((vI ans).length : Int)])) := upd_same
      have p5 : upd H4 g (.lst (vI given ++ [V.int ((vI ans).length : Int)])) p = some (.lst (vI ans)) := by
        rw [upd_ne gp.symm]
        exact hp
      refine ⟨_, rfl, .inl ⟨rfl, _, SqL.of g5⟩, _, rfl, g, p, _, _, rfl, rfl, g5, p5, Nat.le_of_lt (big _ (by rw [List.length_append, vI_len, vI_len]; show given.length + 1 + ans.length ≤ 10000000; omega)), ?_⟩
      rw [upd_upd]
      have e6 : vI given ++ [V.int ((vI ans).length : Int)] ++ vI ans = vI (given ++ (ans.length : Int) :: ans) := by
        unfold vI
        rw [List.length_map, List.map_append, List.append_assoc]
        rfl
      rw [e6]
      have k6 : Keep H4 (upd H4 g (.lst (vI (given ++ (ans.length : Int) :: ans)))) [g] := Keep.put
      have adv : 0 < (put1 c).length := List.length_pos_iff.mpr (put1_ne (wk.ok c (List.Mem.head _)))
      refine ⟨xs.length - (i + (put1 c).length), by omega, some (.ref p), ls', lr', i + (put1 c).length, given ++ (ans.length : Int) :: ans, st', cs', rfl, rfl, hK4.keep k6 (by simpa using ngk.symm) (by simpa using m1.symm) (by simpa using m2.symm), hR4.keep k6 (by simpa using ngr.symm), still k6 hX4 (fun p hp => .inr (.inr (List.mem_singleton.mp hp))), upd_same, m1, m2, wk'⟩
    · refine if_f (decide_eq_false (by omega)) ?_
      refine ⟨_, rfl, q H3 g ?_⟩
      rw [hg, wk.over c]
end
end Ten

set_option Elab.async false
set_option linter.all false
set_option maxRecDepth 100000
set_option maxHeartbeats 8000000
namespace Ten
open PySem PySem.Spec PyProof.Rows L2
/-! ### the end: what the top has written -/
theorem all_mk {P' : Program} {w : World} {K : PySem.W.Frag} {h : Heap} {mg : Str → Option Value} {fa CA fAInit fNote fAskName fAskPad fAskMark fAskPass fAskRow CK fKInit CR fRInit fMore fNum fRow fComes fNameOf fPadOf fMarkOf fPassOf fSpoilt fXor fName fSeal fOpen fNew fTry fFree fBox fCounter fLook fPutC fTold fCall fAns : Addr} (X : K.In h) (G : h.Ns mainGlobals mg) (hfa : mg "answers" = some (.ref fa))
    {odAInit anAInit odNote anNote odAskName anAskName odAskPad anAskPad odAskMark anAskMark odAskPass anAskPass odAskRow anAskRow odKInit anKInit odRInit anRInit odMore anMore odNum anNum odRow anRow odComes anComes odNameOf anNameOf odPadOf anPadOf odMarkOf anMarkOf odPassOf anPassOf odSpoilt anSpoilt odXor anXor odName anName odSeal anSeal odOpen anOpen odNew anNew odTry anTry odFree anFree odBox anBox odCounter anCounter odLook anLook odPutC anPutC odTold anTold odCall anCall odAns anAns : Option Addr} {slAInit slNote slAskName slAskPad slAskMark slAskPass slAskRow slKInit slRInit slMore slNum slRow slComes slNameOf slPadOf slMarkOf slPassOf slSpoilt slXor slName slSeal slOpen slNew slTry slFree slBox slCounter slLook slPutC slTold slCall slAns : Array (Option Value)} {ocAInit kVAInit dcAInit pmAInit cdAInit ctAInit ocNote kVNote dcNote pmNote cdNote ctNote ocAskName kVAskName dcAskName pmAskName cdAskName ctAskName ocAskPad kVAskPad dcAskPad pmAskPad cdAskPad ctAskPad ocAskMark kVAskMark dcAskMark pmAskMark cdAskMark ctAskMark ocAskPass kVAskPass dcAskPass pmAskPass cdAskPass ctAskPass ocAskRow kVAskRow dcAskRow pmAskRow cdAskRow ctAskRow ocKInit kVKInit dcKInit pmKInit cdKInit ctKInit ocRInit kVRInit dcRInit pmRInit cdRInit ctRInit ocMore kVMore dcMore pmMore cdMore ctMore ocNum kVNum dcNum pmNum cdNum ctNum ocRow kVRow dcRow pmRow cdRow ctRow ocComes kVComes dcComes pmComes cdComes ctComes ocNameOf kVNameOf dcNameOf pmNameOf cdNameOf ctNameOf ocPadOf kVPadOf dcPadOf pmPadOf cdPadOf ctPadOf ocMarkOf kVMarkOf dcMarkOf pmMarkOf cdMarkOf ctMarkOf ocPassOf kVPassOf dcPassOf pmPassOf cdPassOf ctPassOf ocSpoilt kVSpoilt dcSpoilt pmSpoilt cdSpoilt ctSpoilt ocXor kVXor dcXor pmXor cdXor ctXor ocName kVName dcName pmName cdName ctName ocSeal kVSeal dcSeal pmSeal cdSeal ctSeal ocOpen kVOpen dcOpen pmOpen cdOpen ctOpen ocNew kVNew dcNew pmNew cdNew ctNew ocTry kVTry dcTry pmTry cdTry ctTry ocFree kVFree dcFree pmFree cdFree ctFree ocBox kVBox dcBox pmBox cdBox ctBox ocCounter kVCounter dcCounter pmCounter cdCounter ctCounter ocLook kVLook dcLook pmLook cdLook ctLook ocPutC kVPutC dcPutC pmPutC cdPutC ctPutC ocTold kVTold dcTold pmTold cdTold ctTold ocCall kVCall dcCall pmCall cdCall ctCall ocAns kVAns dcAns pmAns cdAns ctAns : Value} {tP tROW_LENGTH tSEALED_LENGTH tWORD tNOBODY tSOMEBODY tLET_GO tMOST_TRIES tSOMEBODY_THERE tNOBODY_THERE tWRONG_MARK tOUT_OF_RANGE tNO_TRIES_LEFT tSPOILT tHIGHEST_NUMBER tNAME tSEAL tOPEN_BOX tNEW tTRY_ONE tFREE tBOX tCOUNTER tLOOK : Tok}
    (gP : PySem.W.nsIn K mainGlobals "P" = some (some (.int (2305843009213693951) tP)))
    (gROW_LENGTH : PySem.W.nsIn K mainGlobals "ROW_LENGTH" = some (some (.int (11) tROW_LENGTH)))
    (gSEALED_LENGTH : PySem.W.nsIn K mainGlobals "SEALED_LENGTH" = some (some (.int (64) tSEALED_LENGTH)))
    (gWORD : PySem.W.nsIn K mainGlobals "WORD" = some (some (.int (18446744073709551616) tWORD)))
    (gNOBODY : PySem.W.nsIn K mainGlobals "NOBODY" = some (some (.int (0) tNOBODY)))
    (gSOMEBODY : PySem.W.nsIn K mainGlobals "SOMEBODY" = some (some (.int (1) tSOMEBODY)))
    (gLET_GO : PySem.W.nsIn K mainGlobals "LET_GO" = some (some (.int (2) tLET_GO)))
    (gMOST_TRIES : PySem.W.nsIn K mainGlobals "MOST_TRIES" = some (some (.int (10) tMOST_TRIES)))
    (gSOMEBODY_THERE : PySem.W.nsIn K mainGlobals "SOMEBODY_THERE" = some (some (.int (-1) tSOMEBODY_THERE)))
    (gNOBODY_THERE : PySem.W.nsIn K mainGlobals "NOBODY_THERE" = some (some (.int (-2) tNOBODY_THERE)))
    (gWRONG_MARK : PySem.W.nsIn K mainGlobals "WRONG_MARK" = some (some (.int (-13) tWRONG_MARK)))
    (gOUT_OF_RANGE : PySem.W.nsIn K mainGlobals "OUT_OF_RANGE" = some (some (.int (-22) tOUT_OF_RANGE)))
    (gNO_TRIES_LEFT : PySem.W.nsIn K mainGlobals "NO_TRIES_LEFT" = some (some (.int (-28) tNO_TRIES_LEFT)))
    (gSPOILT : PySem.W.nsIn K mainGlobals "SPOILT" = some (some (.int (-71) tSPOILT)))
    (gHIGHEST_NUMBER : PySem.W.nsIn K mainGlobals "HIGHEST_NUMBER" = some (some (.int (9999) tHIGHEST_NUMBER)))
    (gNAME : PySem.W.nsIn K mainGlobals "NAME" = some (some (.int (0) tNAME)))
    (gSEAL : PySem.W.nsIn K mainGlobals "SEAL" = some (some (.int (1) tSEAL)))
    (gOPEN_BOX : PySem.W.nsIn K mainGlobals "OPEN_BOX" = some (some (.int (2) tOPEN_BOX)))
    (gNEW : PySem.W.nsIn K mainGlobals "NEW" = some (some (.int (3) tNEW)))
    (gTRY_ONE : PySem.W.nsIn K mainGlobals "TRY_ONE" = some (some (.int (4) tTRY_ONE)))
    (gFREE : PySem.W.nsIn K mainGlobals "FREE" = some (some (.int (5) tFREE)))
    (gBOX : PySem.W.nsIn K mainGlobals "BOX" = some (some (.int (6) tBOX)))
    (gCOUNTER : PySem.W.nsIn K mainGlobals "COUNTER" = some (some (.int (7) tCOUNTER)))
    (gLOOK : PySem.W.nsIn K mainGlobals "LOOK" = some (some (.int (8) tLOOK)))
    (zrange : PySem.W.nsIn K mainGlobals "range" = some none)
    (zzip : PySem.W.nsIn K mainGlobals "zip" = some none)
    (zreversed : PySem.W.nsIn K mainGlobals "reversed" = some none)
    (zlen : PySem.W.nsIn K mainGlobals "len" = some none)
    (zlist : PySem.W.nsIn K mainGlobals "list" = some none)
    (aCA : PySem.W.nsIn K mainGlobals "Asker" = some (some (.ref CA)))
    (pgA : PySem.W.plainGet K CA Str.empty = true)
    (hdA : PySem.W.hasDictIn K CA = true)
    (poA : PySem.W.plainOver K CA = true)
    (saA : PySem.W.findIn K (.ref CA) "__setattr__" = some (some (.builtin "object.__setattr__")))
    (mkA : PySem.W.makesIn K CA = true)
    (kcA : PySem.W.keepIn K (.ref CA) = true)
    (nA_how_many : PySem.W.findIn K (.ref CA) "how_many" = some none)
    (nA_asked : PySem.W.findIn K (.ref CA) "asked" = some none)
    (aAInit : PySem.W.findIn K (.ref CA) "__init__" = some (some (.ref fAInit)))
    (lAInit : K.lookup fAInit = some ⟨ocAInit, odAInit, .func (PySem.W.fnOf "__init__" "Asker.__init__" (defArgs sAInit) (defBody sAInit) (defScope sAInit) .none kVAInit dcAInit pmAInit anAInit cdAInit ctAInit), slAInit⟩)
    (cAInit : PySem.W.codeIn K cdAInit "Asker.__init__" = true)
    (kAInit : PySem.W.keepIn K (.ref fAInit) = true)
    (iAInit : PySem.W.isFn K (.ref fAInit) = true)
    (aNote : PySem.W.findIn K (.ref CA) "note" = some (some (.ref fNote)))
    (lNote : K.lookup fNote = some ⟨ocNote, odNote, .func (PySem.W.fnOf "note" "Asker.note" (defArgs sNote) (defBody sNote) (defScope sNote) .none kVNote dcNote pmNote anNote cdNote ctNote), slNote⟩)
    (cNote : PySem.W.codeIn K cdNote "Asker.note" = true)
    (kNote : PySem.W.keepIn K (.ref fNote) = true)
    (iNote : PySem.W.isFn K (.ref fNote) = true)
    (aAskName : PySem.W.findIn K (.ref CA) "ask_name" = some (some (.ref fAskName)))
    (lAskName : K.lookup fAskName = some ⟨ocAskName, odAskName, .func (PySem.W.fnOf "ask_name" "Asker.ask_name" (defArgs sAskName) (defBody sAskName) (defScope sAskName) .none kVAskName dcAskName pmAskName anAskName cdAskName ctAskName), slAskName⟩)
    (cAskName : PySem.W.codeIn K cdAskName "Asker.ask_name" = true)
    (kAskName : PySem.W.keepIn K (.ref fAskName) = true)
    (iAskName : PySem.W.isFn K (.ref fAskName) = true)
    (aAskPad : PySem.W.findIn K (.ref CA) "ask_pad" = some (some (.ref fAskPad)))
    (lAskPad : K.lookup fAskPad = some ⟨ocAskPad, odAskPad, .func (PySem.W.fnOf "ask_pad" "Asker.ask_pad" (defArgs sAskPad) (defBody sAskPad) (defScope sAskPad) .none kVAskPad dcAskPad pmAskPad anAskPad cdAskPad ctAskPad), slAskPad⟩)
    (cAskPad : PySem.W.codeIn K cdAskPad "Asker.ask_pad" = true)
    (kAskPad : PySem.W.keepIn K (.ref fAskPad) = true)
    (iAskPad : PySem.W.isFn K (.ref fAskPad) = true)
    (aAskMark : PySem.W.findIn K (.ref CA) "ask_mark" = some (some (.ref fAskMark)))
    (lAskMark : K.lookup fAskMark = some ⟨ocAskMark, odAskMark, .func (PySem.W.fnOf "ask_mark" "Asker.ask_mark" (defArgs sAskMark) (defBody sAskMark) (defScope sAskMark) .none kVAskMark dcAskMark pmAskMark anAskMark cdAskMark ctAskMark), slAskMark⟩)
    (cAskMark : PySem.W.codeIn K cdAskMark "Asker.ask_mark" = true)
    (kAskMark : PySem.W.keepIn K (.ref fAskMark) = true)
    (iAskMark : PySem.W.isFn K (.ref fAskMark) = true)
    (aAskPass : PySem.W.findIn K (.ref CA) "ask_pass" = some (some (.ref fAskPass)))
    (lAskPass : K.lookup fAskPass = some ⟨ocAskPass, odAskPass, .func (PySem.W.fnOf "ask_pass" "Asker.ask_pass" (defArgs sAskPass) (defBody sAskPass) (defScope sAskPass) .none kVAskPass dcAskPass pmAskPass anAskPass cdAskPass ctAskPass), slAskPass⟩)
    (cAskPass : PySem.W.codeIn K cdAskPass "Asker.ask_pass" = true)
    (kAskPass : PySem.W.keepIn K (.ref fAskPass) = true)
    (iAskPass : PySem.W.isFn K (.ref fAskPass) = true)
    (aAskRow : PySem.W.findIn K (.ref CA) "ask_row" = some (some (.ref fAskRow)))
    (lAskRow : K.lookup fAskRow = some ⟨ocAskRow, odAskRow, .func (PySem.W.fnOf "ask_row" "Asker.ask_row" (defArgs sAskRow) (defBody sAskRow) (defScope sAskRow) .none kVAskRow dcAskRow pmAskRow anAskRow cdAskRow ctAskRow), slAskRow⟩)
    (cAskRow : PySem.W.codeIn K cdAskRow "Asker.ask_row" = true)
    (kAskRow : PySem.W.keepIn K (.ref fAskRow) = true)
    (iAskRow : PySem.W.isFn K (.ref fAskRow) = true)
    (aCK : PySem.W.nsIn K mainGlobals "Kept" = some (some (.ref CK)))
    (pgK : PySem.W.plainGet K CK Str.empty = true)
    (hdK : PySem.W.hasDictIn K CK = true)
    (poK : PySem.W.plainOver K CK = true)
    (saK : PySem.W.findIn K (.ref CK) "__setattr__" = some (some (.builtin "object.__setattr__")))
    (mkK : PySem.W.makesIn K CK = true)
    (kcK : PySem.W.keepIn K (.ref CK) = true)
    (nK_mark : PySem.W.findIn K (.ref CK) "mark" = some none)
    (nK_sealed : PySem.W.findIn K (.ref CK) "sealed" = some none)
    (nK_pass_told : PySem.W.findIn K (.ref CK) "pass_told" = some none)
    (nK_tries : PySem.W.findIn K (.ref CK) "tries" = some none)
    (nK_state : PySem.W.findIn K (.ref CK) "state" = some none)
    (nK_row : PySem.W.findIn K (.ref CK) "row" = some none)
    (aKInit : PySem.W.findIn K (.ref CK) "__init__" = some (some (.ref fKInit)))
    (lKInit : K.lookup fKInit = some ⟨ocKInit, odKInit, .func (PySem.W.fnOf "__init__" "Kept.__init__" (defArgs sKInit) (defBody sKInit) (defScope sKInit) .none kVKInit dcKInit pmKInit anKInit cdKInit ctKInit), slKInit⟩)
    (cKInit : PySem.W.codeIn K cdKInit "Kept.__init__" = true)
    (kKInit : PySem.W.keepIn K (.ref fKInit) = true)
    (iKInit : PySem.W.isFn K (.ref fKInit) = true)
    (aCR : PySem.W.nsIn K mainGlobals "Reader" = some (some (.ref CR)))
    (pgR : PySem.W.plainGet K CR Str.empty = true)
    (hdR : PySem.W.hasDictIn K CR = true)
    (poR : PySem.W.plainOver K CR = true)
    (saR : PySem.W.findIn K (.ref CR) "__setattr__" = some (some (.builtin "object.__setattr__")))
    (mkR : PySem.W.makesIn K CR = true)
    (kcR : PySem.W.keepIn K (.ref CR) = true)
    (nR_numbers : PySem.W.findIn K (.ref CR) "numbers" = some none)
    (nR_at : PySem.W.findIn K (.ref CR) "at" = some none)
    (aRInit : PySem.W.findIn K (.ref CR) "__init__" = some (some (.ref fRInit)))
    (lRInit : K.lookup fRInit = some ⟨ocRInit, odRInit, .func (PySem.W.fnOf "__init__" "Reader.__init__" (defArgs sRInit) (defBody sRInit) (defScope sRInit) .none kVRInit dcRInit pmRInit anRInit cdRInit ctRInit), slRInit⟩)
    (cRInit : PySem.W.codeIn K cdRInit "Reader.__init__" = true)
    (kRInit : PySem.W.keepIn K (.ref fRInit) = true)
    (iRInit : PySem.W.isFn K (.ref fRInit) = true)
    (aMore : PySem.W.findIn K (.ref CR) "has_more" = some (some (.ref fMore)))
    (lMore : K.lookup fMore = some ⟨ocMore, odMore, .func (PySem.W.fnOf "has_more" "Reader.has_more" (defArgs sMore) (defBody sMore) (defScope sMore) .none kVMore dcMore pmMore anMore cdMore ctMore), slMore⟩)
    (cMore : PySem.W.codeIn K cdMore "Reader.has_more" = true)
    (kMore : PySem.W.keepIn K (.ref fMore) = true)
    (iMore : PySem.W.isFn K (.ref fMore) = true)
    (aNum : PySem.W.findIn K (.ref CR) "next_number" = some (some (.ref fNum)))
    (lNum : K.lookup fNum = some ⟨ocNum, odNum, .func (PySem.W.fnOf "next_number" "Reader.next_number" (defArgs sNum) (defBody sNum) (defScope sNum) .none kVNum dcNum pmNum anNum cdNum ctNum), slNum⟩)
    (cNum : PySem.W.codeIn K cdNum "Reader.next_number" = true)
    (kNum : PySem.W.keepIn K (.ref fNum) = true)
    (iNum : PySem.W.isFn K (.ref fNum) = true)
    (aRow : PySem.W.findIn K (.ref CR) "next_row" = some (some (.ref fRow)))
    (lRow : K.lookup fRow = some ⟨ocRow, odRow, .func (PySem.W.fnOf "next_row" "Reader.next_row" (defArgs sRow) (defBody sRow) (defScope sRow) .none kVRow dcRow pmRow anRow cdRow ctRow), slRow⟩)
    (cRow : PySem.W.codeIn K cdRow "Reader.next_row" = true)
    (kRow : PySem.W.keepIn K (.ref fRow) = true)
    (iRow : PySem.W.isFn K (.ref fRow) = true)
    (aComes : PySem.W.nsIn K mainGlobals "comes_to" = some (some (.ref fComes)))
    (lComes : K.lookup fComes = some ⟨ocComes, odComes, .func (PySem.W.fnOf "comes_to" "comes_to" (defArgs sComes) (defBody sComes) (defScope sComes) .none kVComes dcComes pmComes anComes cdComes ctComes), slComes⟩)
    (cComes : PySem.W.codeIn K cdComes "comes_to" = true)
    (kComes : PySem.W.keepIn K (.ref fComes) = true)
    (aNameOf : PySem.W.nsIn K mainGlobals "name_of" = some (some (.ref fNameOf)))
    (lNameOf : K.lookup fNameOf = some ⟨ocNameOf, odNameOf, .func (PySem.W.fnOf "name_of" "name_of" (defArgs sNameOf) (defBody sNameOf) (defScope sNameOf) .none kVNameOf dcNameOf pmNameOf anNameOf cdNameOf ctNameOf), slNameOf⟩)
    (cNameOf : PySem.W.codeIn K cdNameOf "name_of" = true)
    (kNameOf : PySem.W.keepIn K (.ref fNameOf) = true)
    (aPadOf : PySem.W.nsIn K mainGlobals "pad_of" = some (some (.ref fPadOf)))
    (lPadOf : K.lookup fPadOf = some ⟨ocPadOf, odPadOf, .func (PySem.W.fnOf "pad_of" "pad_of" (defArgs sPadOf) (defBody sPadOf) (defScope sPadOf) .none kVPadOf dcPadOf pmPadOf anPadOf cdPadOf ctPadOf), slPadOf⟩)
    (cPadOf : PySem.W.codeIn K cdPadOf "pad_of" = true)
    (kPadOf : PySem.W.keepIn K (.ref fPadOf) = true)
    (aMarkOf : PySem.W.nsIn K mainGlobals "mark_of" = some (some (.ref fMarkOf)))
    (lMarkOf : K.lookup fMarkOf = some ⟨ocMarkOf, odMarkOf, .func (PySem.W.fnOf "mark_of" "mark_of" (defArgs sMarkOf) (defBody sMarkOf) (defScope sMarkOf) .none kVMarkOf dcMarkOf pmMarkOf anMarkOf cdMarkOf ctMarkOf), slMarkOf⟩)
    (cMarkOf : PySem.W.codeIn K cdMarkOf "mark_of" = true)
    (kMarkOf : PySem.W.keepIn K (.ref fMarkOf) = true)
    (aPassOf : PySem.W.nsIn K mainGlobals "pass_of" = some (some (.ref fPassOf)))
    (lPassOf : K.lookup fPassOf = some ⟨ocPassOf, odPassOf, .func (PySem.W.fnOf "pass_of" "pass_of" (defArgs sPassOf) (defBody sPassOf) (defScope sPassOf) .none kVPassOf dcPassOf pmPassOf anPassOf cdPassOf ctPassOf), slPassOf⟩)
    (cPassOf : PySem.W.codeIn K cdPassOf "pass_of" = true)
    (kPassOf : PySem.W.keepIn K (.ref fPassOf) = true)
    (aSpoilt : PySem.W.nsIn K mainGlobals "is_spoilt" = some (some (.ref fSpoilt)))
    (lSpoilt : K.lookup fSpoilt = some ⟨ocSpoilt, odSpoilt, .func (PySem.W.fnOf "is_spoilt" "is_spoilt" (defArgs sSpoilt) (defBody sSpoilt) (defScope sSpoilt) .none kVSpoilt dcSpoilt pmSpoilt anSpoilt cdSpoilt ctSpoilt), slSpoilt⟩)
    (cSpoilt : PySem.W.codeIn K cdSpoilt "is_spoilt" = true)
    (kSpoilt : PySem.W.keepIn K (.ref fSpoilt) = true)
    (aXor : PySem.W.nsIn K mainGlobals "xor_bytes" = some (some (.ref fXor)))
    (lXor : K.lookup fXor = some ⟨ocXor, odXor, .func (PySem.W.fnOf "xor_bytes" "xor_bytes" (defArgs sXor) (defBody sXor) (defScope sXor) .none kVXor dcXor pmXor anXor cdXor ctXor), slXor⟩)
    (cXor : PySem.W.codeIn K cdXor "xor_bytes" = true)
    (kXor : PySem.W.keepIn K (.ref fXor) = true)
    (aName : PySem.W.nsIn K mainGlobals "name" = some (some (.ref fName)))
    (lName : K.lookup fName = some ⟨ocName, odName, .func (PySem.W.fnOf "name" "name" (defArgs sName) (defBody sName) (defScope sName) .none kVName dcName pmName anName cdName ctName), slName⟩)
    (cName : PySem.W.codeIn K cdName "name" = true)
    (kName : PySem.W.keepIn K (.ref fName) = true)
    (aSeal : PySem.W.nsIn K mainGlobals "seal" = some (some (.ref fSeal)))
    (lSeal : K.lookup fSeal = some ⟨ocSeal, odSeal, .func (PySem.W.fnOf "seal" "seal" (defArgs sSeal) (defBody sSeal) (defScope sSeal) .none kVSeal dcSeal pmSeal anSeal cdSeal ctSeal), slSeal⟩)
    (cSeal : PySem.W.codeIn K cdSeal "seal" = true)
    (kSeal : PySem.W.keepIn K (.ref fSeal) = true)
    (aOpen : PySem.W.nsIn K mainGlobals "open_box" = some (some (.ref fOpen)))
    (lOpen : K.lookup fOpen = some ⟨ocOpen, odOpen, .func (PySem.W.fnOf "open_box" "open_box" (defArgs sOpen) (defBody sOpen) (defScope sOpen) .none kVOpen dcOpen pmOpen anOpen cdOpen ctOpen), slOpen⟩)
    (cOpen : PySem.W.codeIn K cdOpen "open_box" = true)
    (kOpen : PySem.W.keepIn K (.ref fOpen) = true)
    (aNew : PySem.W.nsIn K mainGlobals "new" = some (some (.ref fNew)))
    (lNew : K.lookup fNew = some ⟨ocNew, odNew, .func (PySem.W.fnOf "new" "new" (defArgs sNew) (defBody sNew) (defScope sNew) .none kVNew dcNew pmNew anNew cdNew ctNew), slNew⟩)
    (cNew : PySem.W.codeIn K cdNew "new" = true)
    (kNew : PySem.W.keepIn K (.ref fNew) = true)
    (aTry : PySem.W.nsIn K mainGlobals "try_one" = some (some (.ref fTry)))
    (lTry : K.lookup fTry = some ⟨ocTry, odTry, .func (PySem.W.fnOf "try_one" "try_one" (defArgs sTry) (defBody sTry) (defScope sTry) .none kVTry dcTry pmTry anTry cdTry ctTry), slTry⟩)
    (cTry : PySem.W.codeIn K cdTry "try_one" = true)
    (kTry : PySem.W.keepIn K (.ref fTry) = true)
    (aFree : PySem.W.nsIn K mainGlobals "free" = some (some (.ref fFree)))
    (lFree : K.lookup fFree = some ⟨ocFree, odFree, .func (PySem.W.fnOf "free" "free" (defArgs sFree) (defBody sFree) (defScope sFree) .none kVFree dcFree pmFree anFree cdFree ctFree), slFree⟩)
    (cFree : PySem.W.codeIn K cdFree "free" = true)
    (kFree : PySem.W.keepIn K (.ref fFree) = true)
    (aBox : PySem.W.nsIn K mainGlobals "box" = some (some (.ref fBox)))
    (lBox : K.lookup fBox = some ⟨ocBox, odBox, .func (PySem.W.fnOf "box" "box" (defArgs sBox) (defBody sBox) (defScope sBox) .none kVBox dcBox pmBox anBox cdBox ctBox), slBox⟩)
    (cBox : PySem.W.codeIn K cdBox "box" = true)
    (kBox : PySem.W.keepIn K (.ref fBox) = true)
    (aCounter : PySem.W.nsIn K mainGlobals "counter" = some (some (.ref fCounter)))
    (lCounter : K.lookup fCounter = some ⟨ocCounter, odCounter, .func (PySem.W.fnOf "counter" "counter" (defArgs sCounter) (defBody sCounter) (defScope sCounter) .none kVCounter dcCounter pmCounter anCounter cdCounter ctCounter), slCounter⟩)
    (cCounter : PySem.W.codeIn K cdCounter "counter" = true)
    (kCounter : PySem.W.keepIn K (.ref fCounter) = true)
    (aLook : PySem.W.nsIn K mainGlobals "look" = some (some (.ref fLook)))
    (lLook : K.lookup fLook = some ⟨ocLook, odLook, .func (PySem.W.fnOf "look" "look" (defArgs sLook) (defBody sLook) (defScope sLook) .none kVLook dcLook pmLook anLook cdLook ctLook), slLook⟩)
    (cLook : PySem.W.codeIn K cdLook "look" = true)
    (kLook : PySem.W.keepIn K (.ref fLook) = true)
    (aPutC : PySem.W.nsIn K mainGlobals "put_counter" = some (some (.ref fPutC)))
    (lPutC : K.lookup fPutC = some ⟨ocPutC, odPutC, .func (PySem.W.fnOf "put_counter" "put_counter" (defArgs sPutC) (defBody sPutC) (defScope sPutC) .none kVPutC dcPutC pmPutC anPutC cdPutC ctPutC), slPutC⟩)
    (cPutC : PySem.W.codeIn K cdPutC "put_counter" = true)
    (kPutC : PySem.W.keepIn K (.ref fPutC) = true)
    (aTold : PySem.W.nsIn K mainGlobals "told_by_call" = some (some (.ref fTold)))
    (lTold : K.lookup fTold = some ⟨ocTold, odTold, .func (PySem.W.fnOf "told_by_call" "told_by_call" (defArgs sTold) (defBody sTold) (defScope sTold) .none kVTold dcTold pmTold anTold cdTold ctTold), slTold⟩)
    (cTold : PySem.W.codeIn K cdTold "told_by_call" = true)
    (kTold : PySem.W.keepIn K (.ref fTold) = true)
    (aCall : PySem.W.nsIn K mainGlobals "answer_call" = some (some (.ref fCall)))
    (lCall : K.lookup fCall = some ⟨ocCall, odCall, .func (PySem.W.fnOf "answer_call" "answer_call" (defArgs sCall) (defBody sCall) (defScope sCall) .none kVCall dcCall pmCall anCall cdCall ctCall), slCall⟩)
    (cCall : PySem.W.codeIn K cdCall "answer_call" = true)
    (kCall : PySem.W.keepIn K (.ref fCall) = true)
    (aAns : PySem.W.nsIn K mainGlobals "answers" = some (some (.ref fAns)))
    (lAns : K.lookup fAns = some ⟨ocAns, odAns, .func (PySem.W.fnOf "answers" "answers" (defArgs sAns) (defBody sAns) (defScope sAns) .none kVAns dcAns pmAns anAns cdAns ctAns), slAns⟩)
    (cAns : PySem.W.codeIn K cdAns "answers" = true)
    (kAns : PySem.W.keepIn K (.ref fAns) = true)
    : ∃ fd : FuncData, (∀ (s : Shared) (us : List Value), us.length = (["calls"] : List Str).length → BindsTo s fd ⟨us, []⟩ ((["calls"] : List Str).zip us)) ∧ ∀ base : Heap, K.In base → base.Ns mainGlobals mg → FnOk P' w K mg base CX0 6 fa fd ["calls"] (spAns K) := by
  have e := hfa.symm.trans (PySem.W.mg_of X G aAns)
  cases e
  have G_P : ∃ t, mg "P" = some (.int (2305843009213693951) t) := ⟨_, PySem.W.mg_of X G gP⟩
  have G_ROW_LENGTH : ∃ t, mg "ROW_LENGTH" = some (.int (11) t) := ⟨_, PySem.W.mg_of X G gROW_LENGTH⟩
  have G_SEALED_LENGTH : ∃ t, mg "SEALED_LENGTH" = some (.int (64) t) := ⟨_, PySem.W.mg_of X G gSEALED_LENGTH⟩
  have G_WORD : ∃ t, mg "WORD" = some (.int (18446744073709551616) t) := ⟨_, PySem.W.mg_of X G gWORD⟩
  have G_NOBODY : ∃ t, mg "NOBODY" = some (.int (0) t) := ⟨_, PySem.W.mg_of X G gNOBODY⟩
  have G_SOMEBODY : ∃ t, mg "SOMEBODY" = some (.int (1) t) := ⟨_, PySem.W.mg_of X G gSOMEBODY⟩
  have G_LET_GO : ∃ t, mg "LET_GO" = some (.int (2) t) := ⟨_, PySem.W.mg_of X G gLET_GO⟩
  have G_MOST_TRIES : ∃ t, mg "MOST_TRIES" = some (.int (10) t) := ⟨_, PySem.W.mg_of X G gMOST_TRIES⟩
  have G_SOMEBODY_THERE : ∃ t, mg "SOMEBODY_THERE" = some (.int (-1) t) := ⟨_, PySem.W.mg_of X G gSOMEBODY_THERE⟩
  have G_NOBODY_THERE : ∃ t, mg "NOBODY_THERE" = some (.int (-2) t) := ⟨_, PySem.W.mg_of X G gNOBODY_THERE⟩
  have G_WRONG_MARK : ∃ t, mg "WRONG_MARK" = some (.int (-13) t) := ⟨_, PySem.W.mg_of X G gWRONG_MARK⟩
  have G_OUT_OF_RANGE : ∃ t, mg "OUT_OF_RANGE" = some (.int (-22) t) := ⟨_, PySem.W.mg_of X G gOUT_OF_RANGE⟩
  have G_NO_TRIES_LEFT : ∃ t, mg "NO_TRIES_LEFT" = some (.int (-28) t) := ⟨_, PySem.W.mg_of X G gNO_TRIES_LEFT⟩
  have G_SPOILT : ∃ t, mg "SPOILT" = some (.int (-71) t) := ⟨_, PySem.W.mg_of X G gSPOILT⟩
  have G_HIGHEST_NUMBER : ∃ t, mg "HIGHEST_NUMBER" = some (.int (9999) t) := ⟨_, PySem.W.mg_of X G gHIGHEST_NUMBER⟩
  have G_NAME : ∃ t, mg "NAME" = some (.int (0) t) := ⟨_, PySem.W.mg_of X G gNAME⟩
  have G_SEAL : ∃ t, mg "SEAL" = some (.int (1) t) := ⟨_, PySem.W.mg_of X G gSEAL⟩
  have G_OPEN_BOX : ∃ t, mg "OPEN_BOX" = some (.int (2) t) := ⟨_, PySem.W.mg_of X G gOPEN_BOX⟩
  have G_NEW : ∃ t, mg "NEW" = some (.int (3) t) := ⟨_, PySem.W.mg_of X G gNEW⟩
  have G_TRY_ONE : ∃ t, mg "TRY_ONE" = some (.int (4) t) := ⟨_, PySem.W.mg_of X G gTRY_ONE⟩
  have G_FREE : ∃ t, mg "FREE" = some (.int (5) t) := ⟨_, PySem.W.mg_of X G gFREE⟩
  have G_BOX : ∃ t, mg "BOX" = some (.int (6) t) := ⟨_, PySem.W.mg_of X G gBOX⟩
  have G_COUNTER : ∃ t, mg "COUNTER" = some (.int (7) t) := ⟨_, PySem.W.mg_of X G gCOUNTER⟩
  have G_LOOK : ∃ t, mg "LOOK" = some (.int (8) t) := ⟨_, PySem.W.mg_of X G gLOOK⟩
  have m_range : mg "range" = none := PySem.W.mg_none_of X G zrange
  have m_zip : mg "zip" = none := PySem.W.mg_none_of X G zzip
  have m_reversed : mg "reversed" = none := PySem.W.mg_none_of X G zreversed
  have m_len : mg "len" = none := PySem.W.mg_none_of X G zlen
  have m_list : mg "list" = none := PySem.W.mg_none_of X G zlist
  have TA : TxtA K CA := ⟨⟨pgA, hdA, poA, saA⟩, nA_how_many, nA_asked⟩
  have TK : TxtK K CK := ⟨⟨pgK, hdK, poK, saK⟩, nK_mark, nK_sealed, nK_pass_told, nK_tries, nK_state, nK_row⟩
  have TR : TxtR K CR := ⟨⟨pgR, hdR, poR, saR⟩, nR_numbers, nR_at⟩
  have FAInit := fun_mk (st := sAInit) lAInit cAInit kAInit
  have bAInit := FAInit.binds (ps := ["self"]) fun _ _ _ _ _ _ us hl => match us, hl with | [_], _ => rfl
  have FNote := fun_mk (st := sNote) lNote cNote kNote
  have bNote := FNote.binds (ps := ["self", "thing"]) fun _ _ _ _ _ _ us hl => match us, hl with | [_, _], _ => rfl
  have FAskName := fun_mk (st := sAskName) lAskName cAskName kAskName
  have bAskName := FAskName.binds (ps := ["self", "number"]) fun _ _ _ _ _ _ us hl => match us, hl with | [_, _], _ => rfl
  have FAskPad := fun_mk (st := sAskPad) lAskPad cAskPad kAskPad
  have bAskPad := FAskPad.binds (ps := ["self", "y"]) fun _ _ _ _ _ _ us hl => match us, hl with | [_, _], _ => rfl
  have FAskMark := fun_mk (st := sAskMark) lAskMark cAskMark kAskMark
  have bAskMark := FAskMark.binds (ps := ["self", "y"]) fun _ _ _ _ _ _ us hl => match us, hl with | [_, _], _ => rfl
  have FAskPass := fun_mk (st := sAskPass) lAskPass cAskPass kAskPass
  have bAskPass := FAskPass.binds (ps := ["self", "y"]) fun _ _ _ _ _ _ us hl => match us, hl with | [_, _], _ => rfl
  have FAskRow := fun_mk (st := sAskRow) lAskRow cAskRow kAskRow
  have bAskRow := FAskRow.binds (ps := ["self", "script"]) fun _ _ _ _ _ _ us hl => match us, hl with | [_, _], _ => rfl
  have FKInit := fun_mk (st := sKInit) lKInit cKInit kKInit
  have bKInit := FKInit.binds (ps := ["self"]) fun _ _ _ _ _ _ us hl => match us, hl with | [_], _ => rfl
  have FRInit := fun_mk (st := sRInit) lRInit cRInit kRInit
  have bRInit := FRInit.binds (ps := ["self", "numbers"]) fun _ _ _ _ _ _ us hl => match us, hl with | [_, _], _ => rfl
  have FMore := fun_mk (st := sMore) lMore cMore kMore
  have bMore := FMore.binds (ps := ["self"]) fun _ _ _ _ _ _ us hl => match us, hl with | [_], _ => rfl
  have FNum := fun_mk (st := sNum) lNum cNum kNum
  have bNum := FNum.binds (ps := ["self"]) fun _ _ _ _ _ _ us hl => match us, hl with | [_], _ => rfl
  have FRow := fun_mk (st := sRow) lRow cRow kRow
  have bRow := FRow.binds (ps := ["self"]) fun _ _ _ _ _ _ us hl => match us, hl with | [_], _ => rfl
  have FComes := fun_mk (st := sComes) lComes cComes kComes
  have bComes := FComes.binds (ps := ["row", "x"]) fun _ _ _ _ _ _ us hl => match us, hl with | [_, _], _ => rfl
  have FNameOf := fun_mk (st := sNameOf) lNameOf cNameOf kNameOf
  have bNameOf := FNameOf.binds (ps := ["number"]) fun _ _ _ _ _ _ us hl => match us, hl with | [_], _ => rfl
  have FPadOf := fun_mk (st := sPadOf) lPadOf cPadOf kPadOf
  have bPadOf := FPadOf.binds (ps := ["y"]) fun _ _ _ _ _ _ us hl => match us, hl with | [_], _ => rfl
  have FMarkOf := fun_mk (st := sMarkOf) lMarkOf cMarkOf kMarkOf
  have bMarkOf := FMarkOf.binds (ps := ["y"]) fun _ _ _ _ _ _ us hl => match us, hl with | [_], _ => rfl
  have FPassOf := fun_mk (st := sPassOf) lPassOf cPassOf kPassOf
  have bPassOf := FPassOf.binds (ps := ["y"]) fun _ _ _ _ _ _ us hl => match us, hl with | [_], _ => rfl
  have FSpoilt := fun_mk (st := sSpoilt) lSpoilt cSpoilt kSpoilt
  have bSpoilt := FSpoilt.binds (ps := ["kept"]) fun _ _ _ _ _ _ us hl => match us, hl with | [_], _ => rfl
  have FXor := fun_mk (st := sXor) lXor cXor kXor
  have bXor := FXor.binds (ps := ["some", "others"]) fun _ _ _ _ _ _ us hl => match us, hl with | [_, _], _ => rfl
  have FName := fun_mk (st := sName) lName cName kName
  have bName := FName.binds (ps := ["asker", "number"]) fun _ _ _ _ _ _ us hl => match us, hl with | [_, _], _ => rfl
  have FSeal := fun_mk (st := sSeal) lSeal cSeal kSeal
  have bSeal := FSeal.binds (ps := ["kept", "asker", "y", "secret"]) fun _ _ _ _ _ _ us hl => match us, hl with | [_, _, _, _], _ => rfl
  have FOpen := fun_mk (st := sOpen) lOpen cOpen kOpen
  have bOpen := FOpen.binds (ps := ["kept", "asker", "y"]) fun _ _ _ _ _ _ us hl => match us, hl with | [_, _, _], _ => rfl
  have FNew := fun_mk (st := sNew) lNew cNew kNew
  have bNew := FNew.binds (ps := ["kept", "asker", "x", "script"]) fun _ _ _ _ _ _ us hl => match us, hl with | [_, _, _, _], _ => rfl
  have FTry := fun_mk (st := sTry) lTry cTry kTry
  have bTry := FTry.binds (ps := ["kept", "x"]) fun _ _ _ _ _ _ us hl => match us, hl with | [_, _], _ => rfl
  have FFree := fun_mk (st := sFree) lFree cFree kFree
  have bFree := FFree.binds (ps := ["kept", "pass_told"]) fun _ _ _ _ _ _ us hl => match us, hl with | [_, _], _ => rfl
  have FBox := fun_mk (st := sBox) lBox cBox kBox
  have bBox := FBox.binds (ps := ["kept", "mark", "sealed"]) fun _ _ _ _ _ _ us hl => match us, hl with | [_, _, _], _ => rfl
  have FCounter := fun_mk (st := sCounter) lCounter cCounter kCounter
  have bCounter := FCounter.binds (ps := ["kept", "pass_told", "tries", "state", "row"]) fun _ _ _ _ _ _ us hl => match us, hl with | [_, _, _, _, _], _ => rfl
  have FLook := fun_mk (st := sLook) lLook cLook kLook
  have bLook := FLook.binds (ps := ["kept"]) fun _ _ _ _ _ _ us hl => match us, hl with | [_], _ => rfl
  have FPutC := fun_mk (st := sPutC) lPutC cPutC kPutC
  have bPutC := FPutC.binds (ps := ["kept", "reader"]) fun _ _ _ _ _ _ us hl => match us, hl with | [_, _], _ => rfl
  have FTold := fun_mk (st := sTold) lTold cTold kTold
  have bTold := FTold.binds (ps := ["call", "kept", "asker", "reader"]) fun _ _ _ _ _ _ us hl => match us, hl with | [_, _, _, _], _ => rfl
  have FCall := fun_mk (st := sCall) lCall cCall kCall
  have bCall := FCall.binds (ps := ["kept", "reader"]) fun _ _ _ _ _ _ us hl => match us, hl with | [_, _], _ => rfl
  have FAns := fun_mk (st := sAns) lAns cAns kAns
  have bAns := FAns.binds (ps := ["calls"]) fun _ _ _ _ _ _ us hl => match us, hl with | [_], _ => rfl
  refine ⟨PySem.W.fnOf "answers" "answers" (defArgs sAns) (defBody sAns) (defScope sAns) .none kVAns dcAns pmAns anAns cdAns ctAns, fun s us hu => match us, hu with | [_], _ => .of_eq rfl, fun base _ _ => ?_⟩
  have DComes : DefOk P' w K mg base "comes_to" 1 ["row", "x"] (spComes K) := ⟨⟨_, _, PySem.W.mg_of X G aComes, kComes, bComes, ok_comes FComes m_reversed G_P⟩⟩
  have DNameOf : DefOk P' w K mg base "name_of" 1 ["number"] spNameOf := ⟨⟨_, _, PySem.W.mg_of X G aNameOf, kNameOf, bNameOf, ok_nameOf FNameOf⟩⟩
  have DPadOf : DefOk P' w K mg base "pad_of" 1 ["y"] spPadOf := ⟨⟨_, _, PySem.W.mg_of X G aPadOf, kPadOf, bPadOf, ok_padOf FPadOf m_range G_SEALED_LENGTH⟩⟩
  have DMarkOf : DefOk P' w K mg base "mark_of" 1 ["y"] spMarkOf := ⟨⟨_, _, PySem.W.mg_of X G aMarkOf, kMarkOf, bMarkOf, ok_markOf FMarkOf G_WORD⟩⟩
  have DPassOf : DefOk P' w K mg base "pass_of" 1 ["y"] spPassOf := ⟨⟨_, _, PySem.W.mg_of X G aPassOf, kPassOf, bPassOf, ok_passOf FPassOf G_WORD⟩⟩
  have DXor : DefOk P' w K mg base "xor_bytes" 1 ["some", "others"] (spXor K) := ⟨⟨_, _, PySem.W.mg_of X G aXor, kXor, bXor, ok_xor FXor m_zip⟩⟩
  have QAInit : MakeOk P' w K mg base "Asker" CA 1 ["self"] (spAInit CA) := ⟨⟨_, _, PySem.W.mg_of X G aCA, ⟨mkA, aAInit, iAInit, kcA⟩, bAInit, ok_aInit FAInit TA⟩⟩
  have MNote : MethOk P' w K mg base CA "note" 1 ["self", "thing"] (spNote CA) := ⟨⟨_, _, ⟨aNote, iNote, kNote⟩, bNote, ok_note FNote TA⟩⟩
  have MAskName : MethOk P' w K mg base CA "ask_name" 2 ["self", "number"] (spAskName CA) := ⟨⟨_, _, ⟨aAskName, iAskName, kAskName⟩, bAskName, ok_askName FAskName TA MNote DNameOf⟩⟩
  have MAskPad : MethOk P' w K mg base CA "ask_pad" 2 ["self", "y"] (spAskPad CA) := ⟨⟨_, _, ⟨aAskPad, iAskPad, kAskPad⟩, bAskPad, ok_askPad FAskPad TA MNote DPadOf⟩⟩
  have MAskMark : MethOk P' w K mg base CA "ask_mark" 2 ["self", "y"] (spAskMark CA) := ⟨⟨_, _, ⟨aAskMark, iAskMark, kAskMark⟩, bAskMark, ok_askMark FAskMark TA MNote DMarkOf⟩⟩
  have MAskPass : MethOk P' w K mg base CA "ask_pass" 2 ["self", "y"] (spAskPass CA) := ⟨⟨_, _, ⟨aAskPass, iAskPass, kAskPass⟩, bAskPass, ok_askPass FAskPass TA MNote DPassOf⟩⟩
  have MAskRow : MethOk P' w K mg base CA "ask_row" 2 ["self", "script"] (spAskRow K CA) := ⟨⟨_, _, ⟨aAskRow, iAskRow, kAskRow⟩, bAskRow, ok_askRow FAskRow TA MNote m_range G_ROW_LENGTH⟩⟩
  have QKInit : MakeOk P' w K mg base "Kept" CK 1 ["self"] (spKInit CK) := ⟨⟨_, _, PySem.W.mg_of X G aCK, ⟨mkK, aKInit, iKInit, kcK⟩, bKInit, ok_kInit FKInit TK G_SEALED_LENGTH G_ROW_LENGTH G_NOBODY⟩⟩
  have DSpoilt : DefOk P' w K mg base "is_spoilt" 1 ["kept"] (spSpoilt CK) := ⟨⟨_, _, PySem.W.mg_of X G aSpoilt, kSpoilt, bSpoilt, ok_spoilt FSpoilt TK G_LET_GO G_MOST_TRIES G_P⟩⟩
  have QRInit : MakeOk P' w K mg base "Reader" CR 1 ["self", "numbers"] (spRInit CR) := ⟨⟨_, _, PySem.W.mg_of X G aCR, ⟨mkR, aRInit, iRInit, kcR⟩, bRInit, ok_rInit FRInit TR⟩⟩
  have MMore : MethOk P' w K mg base CR "has_more" 1 ["self"] (spMore K CR) := ⟨⟨_, _, ⟨aMore, iMore, kMore⟩, bMore, ok_more FMore TR m_len⟩⟩
  have MNum : MethOk P' w K mg base CR "next_number" 1 ["self"] (spNum K CR) := ⟨⟨_, _, ⟨aNum, iNum, kNum⟩, bNum, ok_num FNum TR⟩⟩
  have MRow : MethOk P' w K mg base CR "next_row" 2 ["self"] (spRow K CR) := ⟨⟨_, _, ⟨aRow, iRow, kRow⟩, bRow, ok_row FRow TR MNum⟩⟩
  have DName : DefOk P' w K mg base "name" 3 ["asker", "number"] (spName CA) := ⟨⟨_, _, PySem.W.mg_of X G aName, kName, bName, ok_name FName TA MAskName G_HIGHEST_NUMBER G_OUT_OF_RANGE⟩⟩
  have DSeal : DefOk P' w K mg base "seal" 3 ["kept", "asker", "y", "secret"] (spSeal K CK CA) := ⟨⟨_, _, PySem.W.mg_of X G aSeal, kSeal, bSeal, ok_seal FSeal TK TA MAskPad MAskMark DXor G_P G_OUT_OF_RANGE⟩⟩
  have DOpen : DefOk P' w K mg base "open_box" 3 ["kept", "asker", "y"] (spOpen CK CA) := ⟨⟨_, _, PySem.W.mg_of X G aOpen, kOpen, bOpen, ok_open FOpen TK TA MAskPad MAskMark MAskPass DXor G_P G_OUT_OF_RANGE G_WRONG_MARK⟩⟩
  have DNew : DefOk P' w K mg base "new" 3 ["kept", "asker", "x", "script"] (spNew K CK CA) := ⟨⟨_, _, PySem.W.mg_of X G aNew, kNew, bNew, ok_new FNew TK TA DSpoilt DComes MAskRow MAskPass G_SPOILT G_P G_OUT_OF_RANGE G_SOMEBODY G_SOMEBODY_THERE⟩⟩
  have DTry : DefOk P' w K mg base "try_one" 2 ["kept", "x"] (spTry CK) := ⟨⟨_, _, PySem.W.mg_of X G aTry, kTry, bTry, ok_try FTry TK DSpoilt DComes G_SPOILT G_P G_OUT_OF_RANGE G_NOBODY G_NOBODY_THERE G_MOST_TRIES G_NO_TRIES_LEFT⟩⟩
  have DFree : DefOk P' w K mg base "free" 2 ["kept", "pass_told"] (spFree CK) := ⟨⟨_, _, PySem.W.mg_of X G aFree, kFree, bFree, ok_free FFree TK DSpoilt G_SPOILT G_NOBODY G_NOBODY_THERE G_MOST_TRIES G_NO_TRIES_LEFT G_LET_GO⟩⟩
  have DBox : DefOk P' w K mg base "box" 1 ["kept", "mark", "sealed"] (spBox K CK) := ⟨⟨_, _, PySem.W.mg_of X G aBox, kBox, bBox, ok_box FBox TK m_list⟩⟩
  have DCounter : DefOk P' w K mg base "counter" 1 ["kept", "pass_told", "tries", "state", "row"] (spCounter K CK) := ⟨⟨_, _, PySem.W.mg_of X G aCounter, kCounter, bCounter, ok_counter FCounter TK m_list⟩⟩
  have DLook : DefOk P' w K mg base "look" 1 ["kept"] (spLook CK) := ⟨⟨_, _, PySem.W.mg_of X G aLook, kLook, bLook, ok_look FLook TK⟩⟩
  have DPutC : DefOk P' w K mg base "put_counter" 3 ["kept", "reader"] (spPutC K CK CR) := ⟨⟨_, _, PySem.W.mg_of X G aPutC, kPutC, bPutC, ok_putC FPutC TR MNum MRow DCounter⟩⟩
  have DTold : DefOk P' w K mg base "told_by_call" 4 ["call", "kept", "asker", "reader"] (spTold K CK CA CR) := ⟨⟨_, _, PySem.W.mg_of X G aTold, kTold, bTold, ok_told FTold TR MNum MRow DName DSeal DOpen DNew DTry DFree DBox DPutC DLook G_NAME G_SEAL G_OPEN_BOX G_NEW G_TRY_ONE G_FREE G_BOX G_COUNTER G_LOOK⟩⟩
  have DCall : DefOk P' w K mg base "answer_call" 5 ["kept", "reader"] (spCall K CK CR) := ⟨⟨_, _, PySem.W.mg_of X G aCall, kCall, bCall, ok_call FCall TA TR MNum QAInit DTold G_BOX G_COUNTER G_LOOK⟩⟩
  exact ok_ans FAns TR QKInit QRInit MMore DCall m_len
end Ten
open PySem PySem.W PyProof.Rows
set_option maxRecDepth 100000 in
set_option maxHeartbeats 0 in
theorem PySem.Challenge.cw_tentries_s01_answers_holds : PySem.Challenge.rw_tentries_s01_answers.Holds := by
  w_on; k_headS; (case hw => exact ⟨[.list [.int 8]], by decide +kernel, by decide +kernel⟩)
  k_fillS
  refine L2.walk_specK (r := PySem.Challenge.rw_tentries_s01_answers) (k := 6) (CX := L2.CX0) (ps := ["calls"]) (sp := Ten.spAns) (by decide +kernel) rfl rfl ⟨rfl, by decide, by decide⟩ (fun w h Y => PySem.W.kIn_of Y) ?F ?S (fun _ _ _ _ z => z)
  case F =>
    intro w mg fa h Y KX G hmg
    refine' Ten.all_mk KX G hmg ?gP ?gROW_LENGTH ?gSEALED_LENGTH ?gWORD ?gNOBODY ?gSOMEBODY ?gLET_GO ?gMOST_TRIES ?gSOMEBODY_THERE ?gNOBODY_THERE ?gWRONG_MARK ?gOUT_OF_RANGE ?gNO_TRIES_LEFT ?gSPOILT ?gHIGHEST_NUMBER ?gNAME ?gSEAL ?gOPEN_BOX ?gNEW ?gTRY_ONE ?gFREE ?gBOX ?gCOUNTER ?gLOOK ?zrange ?zzip ?zreversed ?zlen ?zlist ?aCA ?pgA ?hdA ?poA ?saA ?mkA ?kcA ?nA_how_many ?nA_asked ?aAInit ?lAInit ?cAInit ?kAInit ?iAInit ?aNote ?lNote ?cNote ?kNote ?iNote ?aAskName ?lAskName ?cAskName ?kAskName ?iAskName ?aAskPad ?lAskPad ?cAskPad ?kAskPad ?iAskPad ?aAskMark ?lAskMark ?cAskMark ?kAskMark ?iAskMark ?aAskPass ?lAskPass ?cAskPass ?kAskPass ?iAskPass ?aAskRow ?lAskRow ?cAskRow ?kAskRow ?iAskRow ?aCK ?pgK ?hdK ?poK ?saK ?mkK ?kcK ?nK_mark ?nK_sealed ?nK_pass_told ?nK_tries ?nK_state ?nK_row ?aKInit ?lKInit ?cKInit ?kKInit ?iKInit ?aCR ?pgR ?hdR ?poR ?saR ?mkR ?kcR ?nR_numbers ?nR_at ?aRInit ?lRInit ?cRInit ?kRInit ?iRInit ?aMore ?lMore ?cMore ?kMore ?iMore ?aNum ?lNum ?cNum ?kNum ?iNum ?aRow ?lRow ?cRow ?kRow ?iRow ?aComes ?lComes ?cComes ?kComes ?aNameOf ?lNameOf ?cNameOf ?kNameOf ?aPadOf ?lPadOf ?cPadOf ?kPadOf ?aMarkOf ?lMarkOf ?cMarkOf ?kMarkOf ?aPassOf ?lPassOf ?cPassOf ?kPassOf ?aSpoilt ?lSpoilt ?cSpoilt ?kSpoilt ?aXor ?lXor ?cXor ?kXor ?aName ?lName ?cName ?kName ?aSeal ?lSeal ?cSeal ?kSeal ?aOpen ?lOpen ?cOpen ?kOpen ?aNew ?lNew ?cNew ?kNew ?aTry ?lTry ?cTry ?kTry ?aFree ?lFree ?cFree ?kFree ?aBox ?lBox ?cBox ?kBox ?aCounter ?lCounter ?cCounter ?kCounter ?aLook ?lLook ?cLook ?kLook ?aPutC ?lPutC ?cPutC ?kPutC ?aTold ?lTold ?cTold ?kTold ?aCall ?lCall ?cCall ?kCall ?aAns ?lAns ?cAns ?kAns
    (case gP => k_is)
    (case gROW_LENGTH => k_is)
    (case gSEALED_LENGTH => k_is)
    (case gWORD => k_is)
    (case gNOBODY => k_is)
    (case gSOMEBODY => k_is)
    (case gLET_GO => k_is)
    (case gMOST_TRIES => k_is)
    (case gSOMEBODY_THERE => k_is)
    (case gNOBODY_THERE => k_is)
    (case gWRONG_MARK => k_is)
    (case gOUT_OF_RANGE => k_is)
    (case gNO_TRIES_LEFT => k_is)
    (case gSPOILT => k_is)
    (case gHIGHEST_NUMBER => k_is)
    (case gNAME => k_is)
    (case gSEAL => k_is)
    (case gOPEN_BOX => k_is)
    (case gNEW => k_is)
    (case gTRY_ONE => k_is)
    (case gFREE => k_is)
    (case gBOX => k_is)
    (case gCOUNTER => k_is)
    (case gLOOK => k_is)
    (case zrange => k_is)
    (case zzip => k_is)
    (case zreversed => k_is)
    (case zlen => k_is)
    (case zlist => k_is)
    (case aCA => k_is)
    (case pgA => k_is)
    (case hdA => k_is)
    (case poA => k_is)
    (case saA => k_is)
    (case mkA => k_is)
    (case kcA => k_is)
    (case nA_how_many => k_is)
    (case nA_asked => k_is)
    (case aAInit => k_is)
    (case lAInit => k_is)
    (case cAInit => k_is)
    (case kAInit => k_is)
    (case iAInit => k_is)
    (case aNote => k_is)
    (case lNote => k_is)
    (case cNote => k_is)
    (case kNote => k_is)
    (case iNote => k_is)
    (case aAskName => k_is)
    (case lAskName => k_is)
    (case cAskName => k_is)
    (case kAskName => k_is)
    (case iAskName => k_is)
    (case aAskPad => k_is)
    (case lAskPad => k_is)
    (case cAskPad => k_is)
    (case kAskPad => k_is)
    (case iAskPad => k_is)
    (case aAskMark => k_is)
    (case lAskMark => k_is)
    (case cAskMark => k_is)
    (case kAskMark => k_is)
    (case iAskMark => k_is)
    (case aAskPass => k_is)
    (case lAskPass => k_is)
    (case cAskPass => k_is)
    (case kAskPass => k_is)
    (case iAskPass => k_is)
    (case aAskRow => k_is)
    (case lAskRow => k_is)
    (case cAskRow => k_is)
    (case kAskRow => k_is)
    (case iAskRow => k_is)
    (case aCK => k_is)
    (case pgK => k_is)
    (case hdK => k_is)
    (case poK => k_is)
    (case saK => k_is)
    (case mkK => k_is)
    (case kcK => k_is)
    (case nK_mark => k_is)
    (case nK_sealed => k_is)
    (case nK_pass_told => k_is)
    (case nK_tries => k_is)
    (case nK_state => k_is)
    (case nK_row => k_is)
    (case aKInit => k_is)
    (case lKInit => k_is)
    (case cKInit => k_is)
    (case kKInit => k_is)
    (case iKInit => k_is)
    (case aCR => k_is)
    (case pgR => k_is)
    (case hdR => k_is)
    (case poR => k_is)
    (case saR => k_is)
    (case mkR => k_is)
    (case kcR => k_is)
    (case nR_numbers => k_is)
    (case nR_at => k_is)
    (case aRInit => k_is)
    (case lRInit => k_is)
    (case cRInit => k_is)
    (case kRInit => k_is)
    (case iRInit => k_is)
    (case aMore => k_is)
    (case lMore => k_is)
    (case cMore => k_is)
    (case kMore => k_is)
    (case iMore => k_is)
    (case aNum => k_is)
    (case lNum => k_is)
    (case cNum => k_is)
    (case kNum => k_is)
    (case iNum => k_is)
    (case aRow => k_is)
    (case lRow => k_is)
    (case cRow => k_is)
    (case kRow => k_is)
    (case iRow => k_is)
    (case aComes => k_is)
    (case lComes => k_is)
    (case cComes => k_is)
    (case kComes => k_is)
    (case aNameOf => k_is)
    (case lNameOf => k_is)
    (case cNameOf => k_is)
    (case kNameOf => k_is)
    (case aPadOf => k_is)
    (case lPadOf => k_is)
    (case cPadOf => k_is)
    (case kPadOf => k_is)
    (case aMarkOf => k_is)
    (case lMarkOf => k_is)
    (case cMarkOf => k_is)
    (case kMarkOf => k_is)
    (case aPassOf => k_is)
    (case lPassOf => k_is)
    (case cPassOf => k_is)
    (case kPassOf => k_is)
    (case aSpoilt => k_is)
    (case lSpoilt => k_is)
    (case cSpoilt => k_is)
    (case kSpoilt => k_is)
    (case aXor => k_is)
    (case lXor => k_is)
    (case cXor => k_is)
    (case kXor => k_is)
    (case aName => k_is)
    (case lName => k_is)
    (case cName => k_is)
    (case kName => k_is)
    (case aSeal => k_is)
    (case lSeal => k_is)
    (case cSeal => k_is)
    (case kSeal => k_is)
    (case aOpen => k_is)
    (case lOpen => k_is)
    (case cOpen => k_is)
    (case kOpen => k_is)
    (case aNew => k_is)
    (case lNew => k_is)
    (case cNew => k_is)
    (case kNew => k_is)
    (case aTry => k_is)
    (case lTry => k_is)
    (case cTry => k_is)
    (case kTry => k_is)
    (case aFree => k_is)
    (case lFree => k_is)
    (case cFree => k_is)
    (case kFree => k_is)
    (case aBox => k_is)
    (case lBox => k_is)
    (case cBox => k_is)
    (case kBox => k_is)
    (case aCounter => k_is)
    (case lCounter => k_is)
    (case cCounter => k_is)
    (case kCounter => k_is)
    (case aLook => k_is)
    (case lLook => k_is)
    (case cLook => k_is)
    (case kLook => k_is)
    (case aPutC => k_is)
    (case lPutC => k_is)
    (case cPutC => k_is)
    (case kPutC => k_is)
    (case aTold => k_is)
    (case lTold => k_is)
    (case cTold => k_is)
    (case kTold => k_is)
    (case aCall => k_is)
    (case lCall => k_is)
    (case cCall => k_is)
    (case kCall => k_is)
    (case aAns => k_is)
    (case lAns => k_is)
    (case cAns => k_is)
    (case kAns => k_is)
  case S =>
    intro K H xs a hO hwi hask hx
    cases hx with
    | cons h1 h2 =>
      cases h2
      cases h1 with
      | lst hs ha =>
        have e := L2.ints_dw a.1 _ ha
        subst e
        have q : ((Codec.inLen 0 16000 a.1 && a.1.all (Codec.inInt 0 18446744073709551615)) && true) = true := hwi
        rw [Bool.and_eq_true, Bool.and_eq_true] at q
        have pos : ∀ x ∈ a.1, 0 ≤ x := fun x hx => (Codec.inInt_iff.mp (List.all_eq_true.mp q.1.2 x hx)).1
        exact ⟨_, a.1, rfl, hs, pos, hask, fun H' p hp => .lst (L2.SqL.of hp) (L2.dw_ints _)⟩
#print axioms PySem.Challenge.cw_tentries_s01_answers_holds
