import PyProof.Rows.All
import Wide.All
import OpenK.AllK
import Wide.FinOn
import PySem.Str
import HandS.Nested
import HandS.CallLocal
import HandS.ForMost
import HandS.TupAny
import HandS.Keys
import HandS.TupSets
import KE.KSortTup
import KE.KSortTupAny
import KE.KDictCopyH
import HandS.IsInst
import HandS.Wide
import HandS.Iter
import HandS.Small
import HandS.More
import KE.KStateDown
import HandS.Base
import HandS.Call
import HandS.Ends
import HandS.Words
import HandS.Defaults
import HandS.Head0
import HandS.Head1
import HandS.Head2
import HandS.HeadEnd
import HandS.HeadHook1
import HandS.HeadHook2
import HandS.HeadHook3
import HandS.HeadHook4
import HandS.HeadNt
import HandS.HeadWalk
import PySem.Challenge.RW_goalsmith_k32_opened_and_shut
set_option Elab.async false
set_option linter.all false
set_option autoImplicit false
set_option maxRecDepth 100000
set_option maxHeartbeats 8000000
/-! KM1: terms and sayings as trees; opened, shut, put in; the same by names. Plain Lean. -/
namespace KM
open PySem
inductive Bw | al | so
  deriving DecidableEq
inductive Nw | same | no | nt | an | orr | sw
  deriving DecidableEq
inductive T where
  | nam (x k : Str)
  | bnd (n : Nat)
  | var (n : Nat)
  | mad (f : Str) (ps : List T)
  | bin (w : Bw) (k : Str) (a : T)
  | bnn (w : Bw) (k : Str) (n : Nat) (a : T)
  | nod (w : Nw) (ps : List T)
/-- a short text of small letters -/
def G (x : Str) : Prop := x.cps.toList.length ≤ 8 ∧ ∀ c ∈ x.cps.toList, 97 ≤ c ∧ c ≤ 122
/-- a tree as the laws draw them: at most h high, what is meant stands below m, the names among ns, their kinds among ks -/
def ok (ns ks : List Str) : Nat → Nat → T → Prop
  | 0, _, _ => False
  | _ + 1, _, .nam x k => (x ∈ ns ∧ G x) ∧ (k ∈ ks ∧ G k)
  | _ + 1, m, .bnd n => n < m
  | _ + 1, _, .var _ => False
  | h + 1, m, .mad f ps => (ps.length ≤ 3 ∧ G f) ∧ ∀ p ∈ ps, ok ns ks h m p
  | h + 1, m, .bin _ k a => (k ∈ ks ∧ G k) ∧ ok ns ks h (m + 1) a
  | _ + 1, _, .bnn _ _ _ _ => False
  | h + 1, m, .nod _ ps => ps.length ≤ 2 ∧ ∀ p ∈ ps, ok ns ks h m p
theorem ok_le {ns ks : List Str} : ∀ {h h' m m' : Nat} {t : T}, ok ns ks h m t → h ≤ h' → m ≤ m' → ok ns ks h' m' t
  | 0, _, _, _, _, x, _, _ => x.elim
  | h + 1, 0, _, _, _, _, l, _ => absurd l (by omega)
  | h + 1, h' + 1, m, m', .nam x k, q, _, _ => q
  | h + 1, h' + 1, m, m', .bnd n, q, _, l => Nat.lt_of_lt_of_le q l
  | h + 1, h' + 1, m, m', .var n, q, _, _ => q
  | h + 1, h' + 1, m, m', .mad f ps, q, l, l2 => ⟨q.1, fun p hp => ok_le (q.2 p hp) (by omega) l2⟩
  | h + 1, h' + 1, m, m', .bin w k a, q, l, l2 => ⟨q.1, ok_le q.2 (by omega) (by omega)⟩
  | h + 1, h' + 1, m, m', .bnn _ _ _ _, q, _, _ => q
  | h + 1, h' + 1, m, m', .nod w ps, q, l, l2 => ⟨q.1, fun p hp => ok_le (q.2 p hp) (by omega) l2⟩
theorem ok_sub {ns ns' ks ks' : List Str} (hn : ∀ x ∈ ns, x ∈ ns') (hk : ∀ x ∈ ks, x ∈ ks') : ∀ {h m : Nat} {t : T}, ok ns ks h m t → ok ns' ks' h m t
  | 0, _, _, x => x.elim
  | h + 1, m, .nam x k, q => ⟨⟨hn x q.1.1, q.1.2⟩, ⟨hk k q.2.1, q.2.2⟩⟩
  | h + 1, m, .bnd n, q => q
  | h + 1, m, .var n, q => q
  | h + 1, m, .mad f ps, q => ⟨q.1, fun p hp => ok_sub hn hk (q.2 p hp)⟩
  | h + 1, m, .bin w k a, q => ⟨⟨hk k q.1.1, q.1.2⟩, ok_sub hn hk q.2⟩
  | h + 1, m, .bnn _ _ _ _, q => q
  | h + 1, m, .nod w ps, q => ⟨q.1, fun p hp => ok_sub hn hk (q.2 p hp)⟩
/-! ### leaves changed -/
def chg (g : T → Nat → T) : Nat → Nat → T → T
  | 0, _, t => t
  | _ + 1, d, .nam x k => g (.nam x k) d
  | _ + 1, d, .bnd n => g (.bnd n) d
  | _ + 1, _, .var n => .var n
  | h + 1, d, .mad f ps => .mad f (ps.map (chg g h d))
  | h + 1, d, .bin w k a => .bin w k (chg g h (d + 1) a)
  | _ + 1, _, .bnn w k n a => .bnn w k n a
  | h + 1, d, .nod w ps => .nod w (ps.map (chg g h d))
def gOpen (term : T) : T → Nat → T
  | .bnd n, d => if n = d then term else .bnd n
  | t, _ => t
def gShut (x k : Str) : T → Nat → T
  | .nam y j, d => if y = x ∧ j = k then .bnd d else .nam y j
  | t, _ => t
def gPut (x k : Str) (term : T) : T → Nat → T
  | .nam y j, _ => if y = x ∧ j = k then term else .nam y j
  | t, _ => t
/-! ### what is meant by names, exchanged, and back -/
def nm : Nat → Nat → T → T
  | 0, _, t => t
  | _ + 1, _, .nam x k => .nam x k
  | _ + 1, j, .bnd n => .var (j - n)
  | _ + 1, _, .var n => .var n
  | h + 1, j, .mad f ps => .mad f (ps.map (nm h j))
  | h + 1, j, .bin w k a => .bnn w k (j + 1) (nm h (j + 1) a)
  | _ + 1, _, .bnn w k n a => .bnn w k n a
  | h + 1, j, .nod w ps => .nod w (ps.map (nm h j))
def isN (x k : Str) : T → Bool
  | .nam y j => decide (y = x ∧ j = k)
  | _ => false
def isV (n : Nat) : T → Bool
  | .var m => decide (m = n)
  | _ => false
def ex (p : T → Bool) (new : T) : Nat → T → T
  | 0, t => t
  | h + 1, t => if p t = true then new else match t with
    | .mad f ps => .mad f (ps.map (ex p new h))
    | .bnn w k n a => .bnn w k n (ex p new h a)
    | .nod w ps => .nod w (ps.map (ex p new h))
    | t => t
def un : Nat → Nat → T → T
  | 0, _, t => t
  | _ + 1, _, .nam x k => .nam x k
  | _ + 1, _, .bnd n => .bnd n
  | _ + 1, j, .var n => .bnd (j - n)
  | h + 1, j, .mad f ps => .mad f (ps.map (un h j))
  | _ + 1, _, .bin w k a => .bin w k a
  | h + 1, j, .bnn w k n a => .bin w k (un h n a)
  | h + 1, j, .nod w ps => .nod w (ps.map (un h j))
/-- a tree by names: what is bound is named lo .. j -/
def okN : Nat → Nat → Nat → T → Prop
  | 0, _, _, _ => False
  | _ + 1, _, _, .nam x k => G x ∧ G k
  | _ + 1, _, _, .bnd _ => False
  | _ + 1, lo, j, .var n => lo ≤ n ∧ n ≤ j
  | h + 1, lo, j, .mad f ps => (ps.length ≤ 3 ∧ G f) ∧ ∀ p ∈ ps, okN h lo j p
  | _ + 1, _, _, .bin _ _ _ => False
  | h + 1, lo, j, .bnn _ k n a => (n = j + 1 ∧ G k) ∧ okN h lo n a
  | h + 1, lo, j, .nod _ ps => ps.length ≤ 2 ∧ ∀ p ∈ ps, okN h lo j p
theorem okN_le : ∀ {h h' lo lo' j : Nat} {t : T}, okN h lo j t → h ≤ h' → lo' ≤ lo → okN h' lo' j t
  | 0, _, _, _, _, _, x, _, _ => x.elim
  | h + 1, 0, _, _, _, _, _, l, _ => absurd l (by omega)
  | h + 1, h' + 1, _, _, _, .nam x k, q, _, _ => q
  | h + 1, h' + 1, _, _, _, .bnd n, q, _, _ => q
  | h + 1, h' + 1, _, _, _, .var n, q, _, l => ⟨Nat.le_trans l q.1, q.2⟩
  | h + 1, h' + 1, _, _, _, .mad f ps, q, l, l2 => ⟨q.1, fun p hp => okN_le (q.2 p hp) (by omega) l2⟩
  | h + 1, h' + 1, _, _, _, .bin w k a, q, _, _ => q
  | h + 1, h' + 1, _, _, _, .bnn w k n a, q, l, l2 => ⟨q.1, okN_le q.2 (by omega) l2⟩
  | h + 1, h' + 1, _, _, _, .nod w ps, q, l, l2 => ⟨q.1, fun p hp => okN_le (q.2 p hp) (by omega) l2⟩
section
variable {ns ks : List Str}
/-- terms alone: no all, no some -/
def tm : Nat → T → Prop
  | 0, _ => False
  | _ + 1, .nam x k => G x ∧ G k
  | h + 1, .mad f ps => (ps.length ≤ 3 ∧ G f) ∧ ∀ p ∈ ps, tm h p
  | _ + 1, _ => False
theorem tm_le : ∀ {h h' : Nat} {t : T}, tm h t → h ≤ h' → tm h' t
  | 0, _, _, x, _ => x.elim
  | h + 1, 0, _, _, l => absurd l (by omega)
  | h + 1, h' + 1, .nam x k, q, _ => q
  | h + 1, h' + 1, .bnd n, q, _ => q
  | h + 1, h' + 1, .var n, q, _ => q
  | h + 1, h' + 1, .mad f ps, q, l => ⟨q.1, fun p hp => tm_le (q.2 p hp) (by omega)⟩
  | h + 1, h' + 1, .bin w k a, q, _ => q
  | h + 1, h' + 1, .bnn _ _ _ _, q, _ => q
  | h + 1, h' + 1, .nod w ps, q, _ => q
theorem un_tm : ∀ {h h' j : Nat} {t : T}, tm h t → h ≤ h' → un h' j t = t
  | 0, _, _, _, x, _ => x.elim
  | h + 1, 0, _, _, _, l => absurd l (by omega)
  | h + 1, h' + 1, _, .nam x k, q, _ => rfl
  | h + 1, h' + 1, _, .bnd n, q, _ => rfl
  | h + 1, h' + 1, _, .var n, q, _ => q.elim
  | h + 1, h' + 1, j, .mad f ps, q, l => by
    have e : ps.map (un h' j) = ps.map id := List.map_congr_left fun p hp => un_tm (q.2 p hp) (by omega)
    show T.mad f (ps.map (un h' j)) = _
    rw [e, List.map_id]
  | h + 1, h' + 1, _, .bin w k a, q, _ => rfl
  | h + 1, h' + 1, _, .bnn _ _ _ _, q, _ => q.elim
  | h + 1, h' + 1, _, .nod w ps, q, _ => q.elim
theorem okN_tm : ∀ {h lo j : Nat} {t : T}, tm h t → okN h lo j t
  | 0, _, _, _, x => x.elim
  | h + 1, _, _, .nam x k, q => q
  | h + 1, _, _, .bnd n, q => q.elim
  | h + 1, _, _, .var n, q => q.elim
  | h + 1, _, _, .mad f ps, q => ⟨q.1, fun p hp => okN_tm (q.2 p hp)⟩
  | h + 1, _, _, .bin w k a, q => q.elim
  | h + 1, _, _, .bnn _ _ _ _, q => q.elim
  | h + 1, _, _, .nod w ps, q => q.elim
/-- the named tree lies as told -/
theorem okN_nm : ∀ {h j : Nat} {t : T}, ok ns ks h (j + 1) t → okN h 0 j (nm h j t)
  | 0, _, _, x => x.elim
  | h + 1, _, .nam x k, q => ⟨q.1.2, q.2.2⟩
  | h + 1, j, .bnd n, q => ⟨Nat.zero_le _, Nat.sub_le _ _⟩
  | h + 1, _, .var n, q => q.elim
  | h + 1, j, .mad f ps, q => ⟨by rw [List.length_map]; exact q.1, fun p hp => by
    obtain ⟨p', hp', e⟩ := List.mem_map.mp hp
    rw [← e]
    exact okN_nm (q.2 p' hp')⟩
  | h + 1, j, .bin w k a, q => ⟨⟨rfl, q.1.2⟩, okN_nm q.2⟩
  | h + 1, _, .bnn _ _ _ _, q => q.elim
  | h + 1, j, .nod w ps, q => ⟨by rw [List.length_map]; exact q.1, fun p hp => by
    obtain ⟨p', hp', e⟩ := List.mem_map.mp hp
    rw [← e]
    exact okN_nm (q.2 p' hp')⟩
/-- .. of a saying in which nothing is meant outside: from 1 on -/
theorem okN_nm1 : ∀ {h j : Nat} {t : T}, ok ns ks h j t → okN h 1 j (nm h j t)
  | 0, _, _, x => x.elim
  | h + 1, _, .nam x k, q => ⟨q.1.2, q.2.2⟩
  | h + 1, j, .bnd n, q => ⟨(by have : n < j := q; omega), Nat.sub_le _ _⟩
  | h + 1, _, .var n, q => q.elim
  | h + 1, j, .mad f ps, q => ⟨by rw [List.length_map]; exact q.1, fun p hp => by
    obtain ⟨p', hp', e⟩ := List.mem_map.mp hp
    rw [← e]
    exact okN_nm1 (q.2 p' hp')⟩
  | h + 1, j, .bin w k a, q => ⟨⟨rfl, q.1.2⟩, okN_nm1 q.2⟩
  | h + 1, _, .bnn _ _ _ _, q => q.elim
  | h + 1, j, .nod w ps, q => ⟨by rw [List.length_map]; exact q.1, fun p hp => by
    obtain ⟨p', hp', e⟩ := List.mem_map.mp hp
    rw [← e]
    exact okN_nm1 (q.2 p' hp')⟩
/-- exchanging var 0 for a term -/
theorem okN_exV {c : Nat} {term : T} (ht : tm c term) : ∀ {h j : Nat} {t : T}, okN h 0 j t → okN (h + c) 1 j (ex (isV 0) term h t)
  | 0, _, _, x => x.elim
  | h + 1, _, .nam x k, q => by
    rw [show h + 1 + c = (h + c) + 1 by omega]
    exact q
  | h + 1, j, .bnd n, q => q.elim
  | h + 1, j, .var n, q => by
    show okN _ 1 j (if isV 0 (T.var n) = true then term else T.var n)
    by_cases e : n = 0
    · rw [if_pos (by simp [isV, e])]
      exact okN_le (okN_tm ht) (by omega) (Nat.le_refl _)
    · rw [if_neg (by simp [isV, e]), show h + 1 + c = (h + c) + 1 by omega]
      exact ⟨by omega, q.2⟩
  | h + 1, j, .mad f ps, q => by
    rw [show h + 1 + c = (h + c) + 1 by omega]
    exact ⟨by rw [List.length_map]; exact q.1, fun p hp => by
      obtain ⟨p', hp', e⟩ := List.mem_map.mp hp
      rw [← e]
      exact okN_exV ht (q.2 p' hp')⟩
  | h + 1, j, .bin w k a, q => q.elim
  | h + 1, j, .bnn w k n a, q => by
    rw [show h + 1 + c = (h + c) + 1 by omega]
    exact ⟨q.1, okN_exV ht q.2⟩
  | h + 1, j, .nod w ps, q => by
    rw [show h + 1 + c = (h + c) + 1 by omega]
    exact ⟨by rw [List.length_map]; exact q.1, fun p hp => by
      obtain ⟨p', hp', e⟩ := List.mem_map.mp hp
      rw [← e]
      exact okN_exV ht (q.2 p' hp')⟩
/-- exchanging a name for what lies as told -/
theorem okN_exN {c lo : Nat} {x k : Str} {new : T} (hn : ∀ j, okN c lo j new) (hc : 1 ≤ c) : ∀ {h j : Nat} {t : T}, okN h lo j t → okN (h + c) lo j (ex (isN x k) new h t)
  | 0, _, _, z => z.elim
  | h + 1, j, .nam y i, q => by
    show okN _ lo j (if isN x k (T.nam y i) = true then new else T.nam y i)
    by_cases e : y = x ∧ i = k
    · rw [if_pos (by simp [isN, e])]
      exact okN_le (hn j) (by omega) (Nat.le_refl _)
    · rw [if_neg (by simp [isN, e]), show h + 1 + c = (h + c) + 1 by omega]
      exact q
  | h + 1, j, .bnd n, q => q.elim
  | h + 1, j, .var n, q => by
    rw [show h + 1 + c = (h + c) + 1 by omega]
    exact q
  | h + 1, j, .mad f ps, q => by
    rw [show h + 1 + c = (h + c) + 1 by omega]
    exact ⟨by rw [List.length_map]; exact q.1, fun p hp => by
      obtain ⟨p', hp', e⟩ := List.mem_map.mp hp
      rw [← e]
      exact okN_exN hn hc (q.2 p' hp')⟩
  | h + 1, j, .bin w k a, q => q.elim
  | h + 1, j, .bnn w k n a, q => by
    rw [show h + 1 + c = (h + c) + 1 by omega]
    exact ⟨q.1, okN_exN hn hc q.2⟩
  | h + 1, j, .nod w ps, q => by
    rw [show h + 1 + c = (h + c) + 1 by omega]
    exact ⟨by rw [List.length_map]; exact q.1, fun p hp => by
      obtain ⟨p', hp', e⟩ := List.mem_map.mp hp
      rw [← e]
      exact okN_exN hn hc (q.2 p' hp')⟩
/-! ### the three are one -/
theorem open_eq {c : Nat} {term : T} (ht : tm c term) : ∀ {h j : Nat} {t : T}, ok ns ks h (j + 1) t → un (h + c) j (ex (isV 0) term h (nm h j t)) = chg (gOpen term) h j t
  | 0, _, _, x => x.elim
  | h + 1, j, .nam x k, q => by rw [show h + 1 + c = (h + c) + 1 by omega] <;> rfl
  | h + 1, j, .bnd n, q => by
    have q : n < j + 1 := q
    show un _ j (if isV 0 (T.var (j - n)) = true then term else T.var (j - n)) = if n = j then term else T.bnd n
    by_cases e : n = j
    · rw [if_pos (by simp [isV, e]), if_pos e]
      exact un_tm ht (by omega)
    · rw [if_neg (by simp [isV]; omega), if_neg e, show h + 1 + c = (h + c) + 1 by omega]
      show T.bnd (j - (j - n)) = _
      rw [show j - (j - n) = n by omega]
  | h + 1, _, .var n, q => q.elim
  | h + 1, j, .mad f ps, q => by
    rw [show h + 1 + c = (h + c) + 1 by omega]
    show T.mad f (((ps.map (nm h j)).map (ex (isV 0) term h)).map (un (h + c) j)) = T.mad f (ps.map (chg (gOpen term) h j))
    rw [List.map_map, List.map_map]
    exact congrArg _ (List.map_congr_left fun p hp => open_eq ht (q.2 p hp))
  | h + 1, j, .bin w k a, q => by
    rw [show h + 1 + c = (h + c) + 1 by omega]
    exact congrArg (T.bin w k) (open_eq ht q.2)
  | h + 1, _, .bnn _ _ _ _, q => q.elim
  | h + 1, j, .nod w ps, q => by
    rw [show h + 1 + c = (h + c) + 1 by omega]
    show T.nod w (((ps.map (nm h j)).map (ex (isV 0) term h)).map (un (h + c) j)) = T.nod w (ps.map (chg (gOpen term) h j))
    rw [List.map_map, List.map_map]
    exact congrArg _ (List.map_congr_left fun p hp => open_eq ht (q.2 p hp))
theorem shut_eq {c : Nat} {x k : Str} : ∀ {h j : Nat} {t : T}, ok ns ks h j t → un (h + c) j (ex (isN x k) (.var 0) h (nm h j t)) = chg (gShut x k) h j t
  | 0, _, _, z => z.elim
  | h + 1, j, .nam y i, q => by
    rw [show h + 1 + c = (h + c) + 1 by omega]
    show un _ j (if isN x k (T.nam y i) = true then T.var 0 else T.nam y i) = if y = x ∧ i = k then T.bnd j else T.nam y i
    by_cases e : y = x ∧ i = k
    · rw [if_pos (by simp [isN, e]), if_pos e] <;> rfl
    · rw [if_neg (by simp [isN, e]), if_neg e] <;> rfl
  | h + 1, j, .bnd n, q => by
    have q : n < j := q
    rw [show h + 1 + c = (h + c) + 1 by omega]
    show T.bnd (j - (j - n)) = T.bnd n
    rw [show j - (j - n) = n by omega]
  | h + 1, _, .var n, q => q.elim
  | h + 1, j, .mad f ps, q => by
    rw [show h + 1 + c = (h + c) + 1 by omega]
    show T.mad f (((ps.map (nm h j)).map (ex (isN x k) (.var 0) h)).map (un (h + c) j)) = T.mad f (ps.map (chg (gShut x k) h j))
    rw [List.map_map, List.map_map]
    exact congrArg _ (List.map_congr_left fun p hp => shut_eq (q.2 p hp))
  | h + 1, j, .bin w k a, q => by
    rw [show h + 1 + c = (h + c) + 1 by omega]
    exact congrArg (T.bin w k) (shut_eq q.2)
  | h + 1, _, .bnn _ _ _ _, q => q.elim
  | h + 1, j, .nod w ps, q => by
    rw [show h + 1 + c = (h + c) + 1 by omega]
    show T.nod w (((ps.map (nm h j)).map (ex (isN x k) (.var 0) h)).map (un (h + c) j)) = T.nod w (ps.map (chg (gShut x k) h j))
    rw [List.map_map, List.map_map]
    exact congrArg _ (List.map_congr_left fun p hp => shut_eq (q.2 p hp))
theorem put_eq {c : Nat} {x k : Str} {term : T} (ht : tm c term) : ∀ {h j : Nat} {t : T}, ok ns ks h j t → un (h + c) j (ex (isN x k) term h (nm h j t)) = chg (gPut x k term) h j t
  | 0, _, _, z => z.elim
  | h + 1, j, .nam y i, q => by
    show un _ j (if isN x k (T.nam y i) = true then term else T.nam y i) = if y = x ∧ i = k then term else T.nam y i
    by_cases e : y = x ∧ i = k
    · rw [if_pos (by simp [isN, e]), if_pos e]
      exact un_tm ht (by omega)
    · rw [if_neg (by simp [isN, e]), if_neg e, show h + 1 + c = (h + c) + 1 by omega] <;> rfl
  | h + 1, j, .bnd n, q => by
    have q : n < j := q
    rw [show h + 1 + c = (h + c) + 1 by omega]
    show T.bnd (j - (j - n)) = T.bnd n
    rw [show j - (j - n) = n by omega]
  | h + 1, _, .var n, q => q.elim
  | h + 1, j, .mad f ps, q => by
    rw [show h + 1 + c = (h + c) + 1 by omega]
    show T.mad f (((ps.map (nm h j)).map (ex (isN x k) term h)).map (un (h + c) j)) = T.mad f (ps.map (chg (gPut x k term) h j))
    rw [List.map_map, List.map_map]
    exact congrArg _ (List.map_congr_left fun p hp => put_eq ht (q.2 p hp))
  | h + 1, j, .bin w k a, q => by
    rw [show h + 1 + c = (h + c) + 1 by omega]
    exact congrArg (T.bin w k) (put_eq ht q.2)
  | h + 1, _, .bnn _ _ _ _, q => q.elim
  | h + 1, j, .nod w ps, q => by
    rw [show h + 1 + c = (h + c) + 1 by omega]
    show T.nod w (((ps.map (nm h j)).map (ex (isN x k) term h)).map (un (h + c) j)) = T.nod w (ps.map (chg (gPut x k term) h j))
    rw [List.map_map, List.map_map]
    exact congrArg _ (List.map_congr_left fun p hp => put_eq ht (q.2 p hp))
/-- opened by a strange name, and shut by it -/
theorem there_back {x k : Str} (hx : x ∉ ns) : ∀ {h j : Nat} {t : T}, ok ns ks h (j + 1) t → chg (gShut x k) h j (chg (gOpen (.nam x k)) h j t) = t
  | 0, _, _, z => z.elim
  | h + 1, j, .nam y i, q => by
    show (if y = x ∧ i = k then T.bnd j else T.nam y i) = T.nam y i
    rw [if_neg]
    rintro ⟨e, _⟩
    exact hx (e ▸ q.1.1)
  | h + 1, j, .bnd n, q => by
    show chg (gShut x k) (h + 1) j (if n = j then T.nam x k else T.bnd n) = T.bnd n
    by_cases e : n = j
    · rw [if_pos e, e]
      show (if x = x ∧ k = k then T.bnd j else T.nam x k) = T.bnd j
      rw [if_pos ⟨rfl, rfl⟩]
    · rw [if_neg e] <;> rfl
  | h + 1, _, .var n, q => q.elim
  | h + 1, j, .mad f ps, q => by
    show T.mad f ((ps.map (chg (gOpen (.nam x k)) h j)).map (chg (gShut x k) h j)) = T.mad f ps
    rw [List.map_map]
    have e : ps.map (chg (gShut x k) h j ∘ chg (gOpen (.nam x k)) h j) = ps.map id := List.map_congr_left fun p hp => there_back hx (q.2 p hp)
    rw [e, List.map_id]
  | h + 1, j, .bin w kk a, q => congrArg (T.bin w kk) (there_back hx q.2)
  | h + 1, _, .bnn _ _ _ _, q => q.elim
  | h + 1, j, .nod w ps, q => by
    show T.nod w ((ps.map (chg (gOpen (.nam x k)) h j)).map (chg (gShut x k) h j)) = T.nod w ps
    rw [List.map_map]
    have e : ps.map (chg (gShut x k) h j ∘ chg (gOpen (.nam x k)) h j) = ps.map id := List.map_congr_left fun p hp => there_back hx (q.2 p hp)
    rw [e, List.map_id]
/-- what is opened lies as told -/
theorem ok_open {c : Nat} {term : T} (ht : ok ns ks c 0 term) (hc : 1 ≤ c) : ∀ {h j : Nat} {t : T}, ok ns ks h (j + 1) t → ok ns ks (h + c) j (chg (gOpen term) h j t)
  | 0, _, _, z => z.elim
  | h + 1, j, .nam y i, q => by
    rw [show h + 1 + c = (h + c) + 1 by omega]
    exact q
  | h + 1, j, .bnd n, q => by
    have q : n < j + 1 := q
    show ok ns ks _ j (if n = j then term else T.bnd n)
    by_cases e : n = j
    · rw [if_pos e]
      exact ok_le ht (by omega) (Nat.zero_le _)
    · rw [if_neg e, show h + 1 + c = (h + c) + 1 by omega]
      show n < j
      omega
  | h + 1, _, .var n, q => q.elim
  | h + 1, j, .mad f ps, q => by
    rw [show h + 1 + c = (h + c) + 1 by omega]
    exact ⟨by rw [List.length_map]; exact q.1, fun p hp => by
      obtain ⟨p', hp', e⟩ := List.mem_map.mp hp
      rw [← e]
      exact ok_open ht hc (q.2 p' hp')⟩
  | h + 1, j, .bin w kk a, q => by
    rw [show h + 1 + c = (h + c) + 1 by omega]
    exact ⟨q.1, ok_open ht hc q.2⟩
  | h + 1, _, .bnn _ _ _ _, q => q.elim
  | h + 1, j, .nod w ps, q => by
    rw [show h + 1 + c = (h + c) + 1 by omega]
    exact ⟨by rw [List.length_map]; exact q.1, fun p hp => by
      obtain ⟨p', hp', e⟩ := List.mem_map.mp hp
      rw [← e]
      exact ok_open ht hc (q.2 p' hp')⟩
/-! ### free names, from the left -/
def fr : Nat → T → List (Str × Str)
  | 0, _ => []
  | _ + 1, .nam x k => [(x, k)]
  | h + 1, .mad _ ps => ps.flatMap (fr h)
  | h + 1, .bin _ _ a => fr h a
  | h + 1, .nod _ ps => ps.flatMap (fr h)
  | _ + 1, _ => []
theorem fr_mem : ∀ {h m : Nat} {t : T}, ok ns ks h m t → ∀ p ∈ fr h t, p.1 ∈ ns ∧ p.2 ∈ ks
  | 0, _, _, z, _, _ => z.elim
  | h + 1, m, .nam x k, q, p, hp => by
    rw [List.mem_singleton.mp (show p ∈ [(x, k)] from hp)]
    exact ⟨q.1.1, q.2.1⟩
  | h + 1, m, .bnd n, q, p, hp => nomatch (show p ∈ ([] : List (Str × Str)) from hp)
  | h + 1, m, .var n, q, p, hp => q.elim
  | h + 1, m, .mad f ps, q, p, hp => by
    obtain ⟨t, ht, hp⟩ := List.mem_flatMap.mp hp
    exact fr_mem (q.2 t ht) p hp
  | h + 1, m, .bin w k a, q, p, hp => fr_mem q.2 p hp
  | h + 1, m, .bnn _ _ _ _, q, p, hp => q.elim
  | h + 1, m, .nod w ps, q, p, hp => by
    obtain ⟨t, ht, hp⟩ := List.mem_flatMap.mp hp
    exact fr_mem (q.2 t ht) p hp
theorem flat_len {α β : Type} (f : α → List β) (b : Nat) : ∀ (l : List α), (∀ x ∈ l, (f x).length ≤ b) → (l.flatMap f).length ≤ l.length * b
  | [], _ => by simp
  | x :: l, h => by
    rw [List.flatMap_cons, List.length_append, List.length_cons, Nat.add_mul, Nat.one_mul]
    have h1 := h x List.mem_cons_self
    have h2 := flat_len f b l fun y hy => h y (List.mem_cons_of_mem _ hy)
    omega
theorem fr_len : ∀ {h m : Nat} {t : T}, ok ns ks h m t → (fr h t).length ≤ 3 ^ h
  | 0, _, _, z => z.elim
  | h + 1, m, .nam x k, q => (show 3 ^ 0 ≤ 3 ^ (h + 1) from Nat.pow_le_pow_right (by decide) (Nat.zero_le (h + 1)))
  | h + 1, m, .bnd n, q => Nat.zero_le _
  | h + 1, m, .var n, q => q.elim
  | h + 1, m, .mad f ps, q => by
    refine Nat.le_trans (flat_len (fr h) (3 ^ h) ps fun t ht => fr_len (q.2 t ht)) ?_
    rw [Nat.pow_succ, Nat.mul_comm]
    exact Nat.mul_le_mul_left _ q.1.1
  | h + 1, m, .bin w k a, q => Nat.le_trans (fr_len (h := h) (m := m + 1) q.2) (Nat.pow_le_pow_right (by decide) (Nat.le_succ h))
  | h + 1, m, .bnn _ _ _ _, q => q.elim
  | h + 1, m, .nod w ps, q => by
    refine Nat.le_trans (flat_len (fr h) (3 ^ h) ps fun t ht => fr_len (q.2 t ht)) ?_
    rw [Nat.pow_succ, Nat.mul_comm]
    exact Nat.mul_le_mul_left _ (Nat.le_trans q.1 (by decide))
end
end KM

/-! LF1: a lambda with parameters and captured names, handed to a def that calls it: its object and its cells lie in a base of the callee's own. -/
namespace LamF
open PySem PySem.Spec PyProof.Rows L2 LamX NdefX
/-- the captured cells, in the base -/
structure CellsB (cl : List (Str × Addr)) (fr : List Str) (ws : List V) (b : Heap) : Prop where
  len : ws.length = fr.length
  all : ∀ y c, cl.lookup y = some c → ∃ v, b.IsCell c v
  inj : ∀ x y c, cl.lookup x = some c → cl.lookup y = some c → x = y
  has : ∀ (i : Nat) (y : Str), fr[i]? = some y → ∃ c, cl.lookup y = some c ∧ ∀ v, ws[i]? = some v → ∃ u, L2.RelV v u ∧ b.IsCell c (some u)
/-- the lambda as it lies in the base -/
structure LamAt (b : Heap) (f : Addr) (F : NF) (le : Expr) (fr : List Str) (ws : List V) : Prop where
  obj : ∃ pm ctv, b.get? f = some (PySem.W.kla_obj F.name F.qual F.params le F.scope F.cl pm F.c ctv)
  cells : CellsB F.cl fr ws b
section
variable {P : Program} {w : World} {K : PySem.W.Frag} {mg : Str → Option Value} {base : Heap} {N ps fr : List Str} {F : NF} {f : Addr} {le : Expr} {ws : List V} {k : Nat} {sp : Sp}
theorem CellsB.at_ {A : Around} {outer : List Env} {s : Shared} {H : Hp} (C : CellsB F.cl fr ws base) (e0 : Env0 P w K mg base A outer s H) : CellsAt F.cl fr (ws.map some) s.heap H := by
  refine ⟨by rw [List.length_map]; exact C.len, fun y c e => ?_, C.inj, fun i y e => ?_⟩
  · obtain ⟨v, o, ho, hd⟩ := C.all y c e
    exact ⟨(e0.bs c o ho).2, v, o, (e0.bs c o ho).1, hd⟩
  · obtain ⟨c, hc, hv⟩ := C.has i y e
    refine ⟨c, hc, fun v ev => ?_⟩
    rw [List.getElem?_map] at ev
    cases q : ws[i]? with
    | none => rw [q] at ev; cases ev
    | some v' =>
      rw [q] at ev
      cases ev
      obtain ⟨u, r, o, ho, hd⟩ := hv v q
      exact ⟨u, r, o, (e0.bs c o ho).1, hd⟩
/-- THE RULE: a lambda by its body -/
theorem lfn_of (S : NScope N ps fr F.scope) (L : LamAt base f F le fr ws) (len : ∀ vs H Q E, sp vs H Q E → vs.length = ps.length) (code : ∀ vs H Q E, sp vs H Q E → H F.c = some (CodeO F.c F.qual))
    (hb : ∀ (pm ctv : Value) (us : List Value), us.length = ps.length → bindArgs (PySem.W.kla_fn F.name F.qual F.params le F.scope F.cl pm (.ref F.c) ctv) ⟨us, []⟩ = pure (ps.zip us))
    (hbody : ∀ (A : Around) (outer : List Env) (s : Shared) (H : Hp) (vs : List V) (Q : VK) (E : XK), Room k (A.deeper (envF F f s.heap.objs.size)) → sp vs H Q E →
      ∃ t, PE (ncx CX0 P w K mg base N F f A outer s H E) le t ∧ t (startF N vs (ws.map some)) H Q) :
    ∃ fd, FnOk P w K mg base CX0 (k + 1) f fd ps sp ∧ Binds K fd ps [] ∧ PySem.W.FnAt f base := by
  obtain ⟨pm, ctv, ho⟩ := L.obj
  refine ⟨PySem.W.kla_fn F.name F.qual F.params le F.scope F.cl pm (.ref F.c) ctv, ⟨len, fun A outer s H args us vs Q E hr e0 hB r hsp => ?_⟩, .all (hb pm ctv), ⟨_, _, _, _, ho⟩⟩
  have hl := len _ _ _ _ hsp
  have lim : s.heap.NoLimit := e0.mod.nolimit.keeps fun b o e => (e0.bs b o e).1
  have hof := (e0.bs f _ ho).1
  refine PySem.W.kla_callFunE hr.depth hof rfl S.co S.gen rfl (codeO_at e0.hok (code _ _ _ _ hsp)) ?_
  refine hB _ _ _ _ ?_
  refine wpAny_newFunctionEnv S.nocell (fun ⟨n, _⟩ hy => S.par n (List.of_mem_zip hy).1) (fun h₁ hns hsb => ⟨lim.fresh _ hsb, ?_⟩) S.kind
  show codeAny _ _ (.expr le (envF F f s.heap.objs.size)) _ _
  have kp : ∀ b o, s.heap.get? b = some o → h₁.get? b = some o := fun b o e => hsb.extBut b o (Nat.ne_of_lt (Heap.lt_size e)) (Heap.get?_push_of_some _ e)
  obtain ⟨t, ht, hq⟩ := hbody A outer s H vs Q E (hr.deeper _) hsp
  have I : Inv (ncx CX0 P w K mg base N F f A outer s H E) [] (startF N vs (ws.map some)) H { s with heap := h₁, toks := s.toks + (ps.zip us).length } := inv_startN S hr.hd e0 hl r (L.cells.at_ e0) hns kp
  refine PySem.W.kla_codeExpr (wpAny_mono (ht.run [] _ _ H Q I hq) (fun u s' hs => ?_) fun e s' hs => hs)
  obtain ⟨v, H', J, rv, q⟩ := hs
  exact ⟨v, H', J.os, J.bare, J.base, J.hok, rv, q⟩
end
section
variable {X : Cx} {k i : Nat} {f : Addr} {fd : FuncData} {ps : List Str} {sp : Sp} {x : Str} {p pos : Pos} {e : Expr} {es : List Expr} {t : TA}
/-- a(..), a local name that holds a function of the base -/
theorem pe_callBs (F : FnOk X.prog X.w X.K X.mg X.base CX0 k f fd ps sp) (ho : PySem.W.FnAt f X.base) (hr : Room k X.A) (hN : X.N[i]? = some x) (hv : Vis X.env.scope x) (hb : Binds X.K fd ps []) (ha : PA X (e :: es) t)
    (hdb : (x == ("__debug__" : Str)) = false := by decide) (hcd : (x == ("__classdict__" : Str)) = false := by decide)
    (he : starEach (e :: es) X.env = (false, eval e X.env) :: starEach es X.env := by rfl) (hpl : (backTo pos (starEach es X.env)).any (·.1) = false := by rfl) : PE X (.Call (.Name x p) (e :: es) [] pos) (tCallL i f sp [] E0 t) := by
  refine ⟨fun pins s σ H Q I h => ?_⟩
  obtain ⟨hs, ht⟩ := h
  refine wpAny_Call_Name_kw (thn ((pe_var (pos := p) hN hv hdb hcd).run pins s σ H (fun v H1 => v = .ref f ∧ H1 = H) I ⟨.ref f, hs, rfl, rfl⟩) fun u s1 ⟨v, H1, I1, r1, q1⟩ => ?_)
  obtain ⟨ev, eH⟩ := q1
  subst ev
  rw [eH] at I1
  obtain rfl : u = Value.ref f := r1
  have at_ : ∀ {H' : Hp} {s' : Shared}, Inv X pins σ H' s' → PySem.W.FnAt f s'.heap := fun {H' s'} I' => by
    obtain ⟨a, b, c, d, h⟩ := ho
    exact ⟨a, b, c, d, I'.bk _ _ h⟩
  refine PySem.W.callWith_F (first := []) (at_ I1) (thn (ha.run pos pins s1 σ H _ I1 ht) fun us s2 ⟨vs, H2, I2, r, q⟩ => ⟨at_ I2, ?_⟩) he hpl
  show wpAny _ _ (call (.ref f) us) _ _ _
  exact run_fn F hr hb .nil pass0 I2 r q
end
/-! ### the base behind the making of a lambda: all that is not tracked, but the frames -/
def lamBase (h : Heap) (H : Hp) (fs : List Addr) : Heap := PySem.W.hideAll h (trk h H ++ fs)
theorem lamBase_get {h : Heap} {H : Hp} {fs : List Addr} {b : Addr} {o : Obj} (e : h.get? b = some o) (n : H b = none) (nf : b ∉ fs) : (lamBase h H fs).get? b = some o :=
  PySem.W.hideAll_get _ e fun hm => by
    rcases List.mem_append.mp hm with z | z
    · have q : (H b).isSome = true := (List.mem_filter.mp z).2
      rw [n] at q
      simp at q
    · exact nf z
theorem of_lamBase {h : Heap} {H : Hp} {fs : List Addr} {b : Addr} {o : Obj} (e : (lamBase h H fs).get? b = some o) : h.get? b = some o ∧ H b = none ∧ b ∉ fs := by
  have e' : h.get? b = some o := PySem.W.of_hideAll _ e
  have nm : b ∉ trk h H ++ fs := fun hm => by
    have z : (lamBase h H fs).get? b = none := PySem.W.hideAll_none _ hm
    rw [z] at e
    cases e
  refine ⟨e', ?_, fun z => nm (List.mem_append.mpr (.inr z))⟩
  cases q : H b with
  | none => rfl
  | some x =>
    exact absurd (List.mem_append.mpr (.inl (List.mem_filter.mpr ⟨List.mem_range.mpr (Heap.lt_size e'), by simp [q]⟩))) nm
theorem funFrames_lam {h base : Heap} {H : Hp} {fs : List Addr} : ∀ {l : List Env}, (∀ b ∈ frs l, b ∈ fs) → h.FunFrames base l → h.FunFrames (lamBase h H fs) l
  | [], _, _ => trivial
  | env :: rest, hs, hl => by
    obtain ⟨hk, ⟨L, o, hf, hn, ho, hd⟩, hr⟩ := hl
    have mem : frs (env :: rest) = L :: frs rest := by
      unfold frs
      rw [List.filterMap_cons, hf]
    have hL : L ∈ fs := hs L (by rw [mem]; exact List.mem_cons_self)
    refine ⟨hk, ⟨L, o, hf, ?_, ho, hd⟩, funFrames_lam (fun b hb => hs b (by rw [mem]; exact List.mem_cons_of_mem _ hb)) hr⟩
    exact PySem.W.hideAll_none _ (List.mem_append.mpr (.inr hL))
section
variable {X : Cx} {pins : List (Addr × Obj)} {σ : L2.St} {H : Hp} {s : Shared}
theorem lamBase_base (I : Inv X pins σ H s) : ∀ b o, X.base.get? b = some o → (lamBase s.heap H (frs X.stack)).get? b = some o := fun b o e => by
  obtain ⟨h1, h2⟩ := I.bs b o e
  exact lamBase_get h1 h2 fun hb => by
    have := (I.stack.mem hb).1
    rw [e] at this
    cases this
theorem lam_mod (I : Inv X pins σ H s) : Mod X.K X.mg (lamBase s.heap H (frs X.stack)) := by
  have k := lamBase_base I
  obtain ⟨a, b, ⟨mb, c, d⟩, e⟩ := I.ok.mod
  exact ⟨a.keeps k, b.keeps k, ⟨mb, c.keeps k, d⟩, e.keeps k⟩
theorem lam_env0 (I : Inv X pins σ H s) : Env0 X.prog X.w X.K X.mg (lamBase s.heap H (frs X.stack)) X.A X.stack s H :=
  ⟨I.ok.frames, lam_mod I, fun b o e => ⟨(of_lamBase e).1, (of_lamBase e).2.1⟩, Nat.le_of_eq (PySem.W.hideAll_size _ _), funFrames_lam (fun _ hb => hb) I.stack, I.stkFree, I.hok, I.bare⟩
end
/-- the reading of g(a, b, lambda ..) -/
def tLam3 (T : List (Addr × Str)) (js : List Nat) (q : Str) (spG : Addr → Addr → List V → Sp) (t1 t2 : TE) : TE := fun σ H Q => t1 σ H fun v1 H1 => t2 σ H1 fun v2 H2 => Tabs T H2 ∧ ∃ ws : List V, js.map (slotAt σ) = ws.map some ∧
  ∀ (f c' : Addr) (H3 : Hp), ExtN H2 H3 → Tabs T H3 → H3 f = none → H3 c' = some (CodeO c' q) → spG f c' ws [v1, v2, .ref f] H3 Q E0
section
variable {X : Cx}
theorem pe_lam3 {T : List (Addr × Str)} {js : List Nat} {fr : List Str} {spG : Addr → Addr → List V → Sp} {g c P : Addr} {fdg : FuncData} {psg : List Str} {k : Nat} {x : Str} {e1 e2 le : Expr} {t1 t2 : TE} {params : Arguments} {scope : Scope} {p lpos pos : Pos}
    (hG : ∀ (b : Heap) (f c' : Addr) (ws : List V), X.K.In b → b.Ns mainGlobals X.mg → LamAt b f ⟨"<lambda>", X.env.qual ++ "<lambda>", params, [], scope, cloFrom X.env.cells scope.names [], c'⟩ le fr ws → FnOk X.prog X.w X.K X.mg b CX0 k g fdg psg (spG f c' ws))
    (hr : Room k X.A) (hg : Gl X x) (hm : X.mg x = some (.ref g)) (hk : PySem.W.keepIn X.K (.ref g) = true) (hb : Binds X.K fdg psg []) (h1 : PE X e1 t1) (h2 : PE X e2 t2)
    (TB : TabB X.base X.mg c P) (hcode : X.env.code = .ref c) (hmT : (P, X.env.qual ++ "<lambda>") ∈ T) (hu : ∀ p ∈ T, p.1 = P → p.2 = X.env.qual ++ "<lambda>") (hfn : ∀ y, X.fn y = true)
    (hfree : ∀ y ∈ scope.names, y.2 = .free → X.env.scope.names.lookup y.1 = some .cell ∨ X.env.scope.names.lookup y.1 = some .free) (hfr : ∀ y ∈ fr, (y, NameKind.free) ∈ scope.names) (hjs : js.map (fun j => X.N[j]?) = fr.map some)
    (hdef : defaultsOf params X.env = ([], []))
    (hdb : (x == ("__debug__" : Str)) = false := by decide)
    (he1 : starEach [e1, e2, .Lambda params le scope lpos] X.env = (false, eval e1 X.env) :: starEach [e2, .Lambda params le scope lpos] X.env := by rfl) (he2 : starEach [e2, .Lambda params le scope lpos] X.env = (false, eval e2 X.env) :: starEach [.Lambda params le scope lpos] X.env := by rfl)
    (hpl : (backTo pos (starEach [e2, .Lambda params le scope lpos] X.env)).any (·.1) = false := by rfl) :
    PE X (.Call (.Name x p) [e1, e2, .Lambda params le scope lpos] [] pos) (tLam3 T js (X.env.qual ++ "<lambda>") spG t1 t2) := by
  refine ⟨fun pins s σ H Q I h => ?_⟩
  refine wpAny_Call_Name_kw (ld_glob I hg hm ?_ hdb)
  refine PySem.W.callWith_K (h₀ := X.base) I.ok.mod.kin hk ?_ he1 hpl
  rw [he1]
  show wpAny _ _ (spliced ((false, eval e1 X.env) :: backTo pos (starEach [e2, .Lambda params le scope lpos] X.env))) _ _ s
  refine Calls.spliced_cons (thn (h1.run pins s σ H _ I h) fun u1 s1 ⟨v1, H1, I1, r1, q1⟩ => ?_)
  rw [he2]
  show wpAny _ _ (spliced ((false, eval e2 X.env) :: backTo pos (starEach [.Lambda params le scope lpos] X.env))) _ _ s1
  refine Calls.spliced_cons (thn (h2.run pins s1 σ H1 _ I1 q1) fun u2 s2 ⟨v2, H2, I2, r2, q2⟩ => ?_)
  obtain ⟨hT, ws, hws, hq⟩ := q2
  show wpAny _ _ (spliced ((false, eval (.Lambda params le scope lpos) X.env) :: backTo pos (starEach [] X.env))) _ _ s2
  have hfr2 : ∀ y ∈ scope.names, y.2 = .free → ∃ c, X.env.cells.lookup y.1 = some c := fun y hy e => (hfree y hy e).elim (fun z => I.ok.has _ (.inl z)) fun z => I.ok.has _ (.inr z)
  refine Calls.spliced_cons (lam_make2 I2 TB hcode hmT hu hT hdef hfr2 fun f c' pm' ctv H3 s3 I3 eN T3 hf hfN hfF hco => ?_)
  refine Calls.spliced_nil ⟨I3.kIn, ?_⟩
  have nfr : ∀ y a, (cloFrom X.env.cells scope.names []).lookup y = some a → a ∉ frs X.stack := fun y a e hb => by
    have e2 := clo_cm hfr2 e
    rcases List.mem_cons.mp (I3.stkSub a hb) with z | z
    · exact I3.cne y a e2 z
    · obtain ⟨_, o, ho, _⟩ := I3.ok.funs.mem z
      exact absurd (Nat.lt_of_lt_of_le (Heap.lt_size ho) (I3.ok.cab y a (hfn y) e2)) (Nat.lt_irrefl _)
  have CA := cells_of I3 (Caps.made I3.ok hfree hfr hjs)
  rw [hws] at CA
  have cB : ∀ y a, (cloFrom X.env.cells scope.names []).lookup y = some a → ∀ v, s3.heap.IsCell a v → (lamBase s3.heap H3 (frs X.stack)).IsCell a v := fun y a e v ⟨o, ho, hd⟩ => ⟨o, lamBase_get ho (CA.all y a e).1 (nfr y a e), hd⟩
  have LA : LamAt (lamBase s3.heap H3 (frs X.stack)) f ⟨"<lambda>", X.env.qual ++ "<lambda>", params, [], scope, cloFrom X.env.cells scope.names [], c'⟩ le fr ws := by
    refine ⟨⟨pm', ctv, lamBase_get hf hfN hfF⟩, ⟨?_, fun y a e => ?_, CA.inj, fun i y e => ?_⟩⟩
    · have q := CA.len
      rw [List.length_map] at q
      exact q
    · obtain ⟨_, v, z⟩ := CA.all y a e
      exact ⟨v, cB y a e v z⟩
    · obtain ⟨a, ha, hv⟩ := CA.has i y e
      refine ⟨a, ha, fun v ev => ?_⟩
      obtain ⟨u, r, z⟩ := hv v (by rw [List.getElem?_map, ev] <;> rfl)
      exact ⟨u, r, cB y a ha _ z⟩
  have M3 := lam_mod I3
  have F := hG _ f c' ws M3.kin M3.glob LA
  have rv : Vals [v1, v2, .ref f] [u1, u2, .ref f] := .cons r1 (.cons r2 (.cons rfl .nil))
  have hl : ([u1, u2, Value.ref f] ++ []).length = psg.length := by
    have := F.len _ _ _ _ (hq f c' H3 eN T3 hfN hco)
    simpa using this
  have rc := F.run X.A X.stack s3 H3 ⟨[u1, u2, .ref f], []⟩ ([u1, u2, .ref f] ++ []) [v1, v2, .ref f] Q E0 hr (lam_env0 I3) (hb s3 [u1, u2, .ref f] I3.kIn hl) (by simpa using rv) (hq f c' H3 eN T3 hfN hco)
  refine wpAny_call (codeAny_mono rc fun r s4 hq4 => ?_)
  cases r with
  | error e => exact (show False from hq4).elim
  | ok fl =>
    cases fl with
    | ret u =>
      obtain ⟨v, H', J, rv, q⟩ := I3.after hq4
      exact ⟨v, H', J, rv, q⟩
    | next => exact False.elim hq4
    | brk => exact False.elim hq4
    | cont => exact False.elim hq4
end
end LamF

/-! KD1: trees in the heap. -/
namespace KD
open PySem PySem.Spec PyProof.Rows L2 LamX NdefX LamF KM
def top (i : Nat) : Stmt := PySem.Challenge.pw_goalsmith_k32_opened_and_shut.main.body.getD i (.Pass ⟨0, 0, 0, 0⟩)
def _root_.KM.Bw.s : Bw → Str
  | .al => "all"
  | .so => "some"
def _root_.KM.Nw.s : Nw → Str
  | .same => "same"
  | .no => "no"
  | .nt => "not"
  | .an => "and"
  | .orr => "or"
  | .sw => "so"
mutual
inductive At (H : Hp) : V → T → Prop
  | nam {a : Addr} {x k : Str} : H a = some (.tup [.str "name", .str x, .str k]) → At H (.ref a) (.nam x k)
  | bnd {a : Addr} {n : Nat} : H a = some (.tup [.str "bound", .int n]) → At H (.ref a) (.bnd n)
  | var {a : Addr} {n : Nat} : H a = some (.tup [.str "var", .int n]) → At H (.ref a) (.var n)
  | mad {a b : Addr} {f : Str} {vs : List V} {ps : List T} : H a = some (.tup [.str "made", .str f, .ref b]) → H b = some (.tup vs) → AtL H vs ps → At H (.ref a) (.mad f ps)
  | bin {a : Addr} {w : Bw} {k : Str} {v : V} {t : T} : H a = some (.tup [.str w.s, .str k, v]) → At H v t → At H (.ref a) (.bin w k t)
  | bnn {a : Addr} {w : Bw} {k : Str} {n : Nat} {v : V} {t : T} : H a = some (.tup [.str w.s, .str k, .int n, v]) → At H v t → At H (.ref a) (.bnn w k n t)
  | nod {a : Addr} {w : Nw} {vs : List V} {ps : List T} : H a = some (.tup (.str w.s :: vs)) → AtL H vs ps → At H (.ref a) (.nod w ps)
inductive AtL (H : Hp) : List V → List T → Prop
  | nil : AtL H [] []
  | cons {v : V} {vs : List V} {t : T} {ts : List T} : At H v t → AtL H vs ts → AtL H (v :: vs) (t :: ts)
end
/-- tuples stay -/
def TupS (H H' : Hp) : Prop := ∀ b xs, H b = some (.tup xs) → H' b = some (.tup xs)
mutual
theorem At.mono {H H' : Hp} (e : TupS H H') : ∀ {v : V} {t : T}, At H v t → At H' v t
  | _, _, .nam h => .nam (e _ _ h)
  | _, _, .bnd h => .bnd (e _ _ h)
  | _, _, .var h => .var (e _ _ h)
  | _, _, .mad h h2 h3 => .mad (e _ _ h) (e _ _ h2) (AtL.mono e h3)
  | _, _, .bin h h2 => .bin (e _ _ h) (At.mono e h2)
  | _, _, .bnn h h2 => .bnn (e _ _ h) (At.mono e h2)
  | _, _, .nod h h2 => .nod (e _ _ h) (AtL.mono e h2)
theorem AtL.mono {H H' : Hp} (e : TupS H H') : ∀ {vs : List V} {ts : List T}, AtL H vs ts → AtL H' vs ts
  | _, _, .nil => .nil
  | _, _, .cons h h2 => .cons (At.mono e h) (AtL.mono e h2)
end
theorem TupS.same {H H' : Hp} (e : Same H H') : TupS H H' := fun b xs h => e b _ h
theorem TupS.refl (H : Hp) : TupS H H := fun _ _ h => h
theorem TupS.trans {H H1 H2 : Hp} (a : TupS H H1) (b : TupS H1 H2) : TupS H H2 := fun c xs h => b c xs (a c xs h)
theorem TupS.upd {H : Hp} {p : Addr} {o : HO} (h : H p = none) : TupS H (upd H p o) := fun b xs e => by rw [upd_ne (ne_of_none e h)]; exact e
theorem TupS.lst {H : Hp} {p : Addr} {xs : List V} {o : HO} (h : H p = some (.lst xs)) : TupS H (L2.upd H p o) := fun b ys e => by rw [upd_ne (ne_of e h (by intro z; cases z))]; exact e
theorem AtL.length {H : Hp} : ∀ {vs : List V} {ts : List T}, AtL H vs ts → vs.length = ts.length
  | _, _, .nil => rfl
  | _, _, .cons _ h => congrArg (· + 1) (AtL.length h)
theorem AtL.get {H : Hp} : ∀ {vs : List V} {ts : List T} {i : Nat} {v : V}, AtL H vs ts → vs[i]? = some v → ∃ t, ts[i]? = some t ∧ At H v t
  | _, _, _, _, .nil, e => by simp at e
  | _, _, 0, _, .cons h _, e => by simp at e; subst e; exact ⟨_, rfl, h⟩
  | _, _, i + 1, _, .cons _ h, e => by
    obtain ⟨t, h1, h2⟩ := AtL.get (i := i) h (by simpa using e)
    exact ⟨t, by simpa using h1, h2⟩
theorem AtL.snoc {H : Hp} {v : V} {t : T} (hv : At H v t) : ∀ {vs : List V} {ts : List T}, AtL H vs ts → AtL H (vs ++ [v]) (ts ++ [t])
  | _, _, .nil => .cons hv .nil
  | _, _, .cons h h2 => .cons h (AtL.snoc hv h2)
theorem Same.upd {H : Hp} {p : Addr} {o : HO} (h : H p = none) : Same H (upd H p o) := fun b u e => by rw [upd_ne (ne_of_none e h)]; exact e
/-! ### as data -/
def toD : Nat → T → PyData
  | 0, _ => .none
  | _ + 1, .nam x k => .tuple [.str "name", .str x, .str k]
  | _ + 1, .bnd n => .tuple [.str "bound", .int n]
  | _ + 1, .var n => .tuple [.str "var", .int n]
  | h + 1, .mad f ps => .tuple [.str "made", .str f, .tuple (ps.map (toD h))]
  | h + 1, .bin w k a => .tuple [.str w.s, .str k, toD h a]
  | h + 1, .bnn w k n a => .tuple [.str w.s, .str k, .int n, toD h a]
  | h + 1, .nod w ps => .tuple (.str w.s :: ps.map (toD h))
/-- at most h high, few parts -/
def hi : Nat → T → Prop
  | 0, _ => False
  | h + 1, .mad f ps => (ps.length ≤ 3 ∧ G f) ∧ ∀ p ∈ ps, hi h p
  | h + 1, .bin _ k a => G k ∧ hi h a
  | h + 1, .bnn _ k _ a => G k ∧ hi h a
  | h + 1, .nod _ ps => ps.length ≤ 2 ∧ ∀ p ∈ ps, hi h p
  | _ + 1, .nam x k => G x ∧ G k
  | _ + 1, _ => True
theorem hi_ok {ns ks : List Str} : ∀ {h m : Nat} {t : T}, ok ns ks h m t → hi h t
  | 0, _, _, x => x
  | h + 1, _, .nam x k, q => ⟨q.1.2, q.2.2⟩
  | h + 1, _, .bnd n, q => trivial
  | h + 1, _, .var n, q => trivial
  | h + 1, _, .mad f ps, q => ⟨q.1, fun p hp => hi_ok (q.2 p hp)⟩
  | h + 1, _, .bin w k a, q => ⟨q.1.2, hi_ok (h := h) q.2⟩
  | h + 1, _, .bnn w k n a, q => q.elim
  | h + 1, _, .nod w ps, q => ⟨q.1, fun p hp => hi_ok (q.2 p hp)⟩
theorem hi_okN : ∀ {h lo j : Nat} {t : T}, okN h lo j t → hi h t
  | 0, _, _, _, x => x
  | h + 1, _, _, .nam x k, q => q
  | h + 1, _, _, .bnd n, q => trivial
  | h + 1, _, _, .var n, q => trivial
  | h + 1, _, _, .mad f ps, q => ⟨q.1, fun p hp => hi_okN (q.2 p hp)⟩
  | h + 1, _, _, .bin w k a, q => q.elim
  | h + 1, _, _, .bnn w k n a, q => ⟨q.1.2, hi_okN (h := h) q.2⟩
  | h + 1, _, _, .nod w ps, q => ⟨q.1, fun p hp => hi_okN (q.2 p hp)⟩
theorem hi_le : ∀ {h h' : Nat} {t : T}, hi h t → h ≤ h' → hi h' t
  | 0, _, _, x, _ => x.elim
  | h + 1, 0, _, _, l => absurd l (by omega)
  | h + 1, h' + 1, .nam x k, q, _ => q
  | h + 1, h' + 1, .bnd n, q, _ => trivial
  | h + 1, h' + 1, .var n, q, _ => trivial
  | h + 1, h' + 1, .mad f ps, q, l => ⟨q.1, fun p hp => hi_le (q.2 p hp) (by omega)⟩
  | h + 1, h' + 1, .bin w k a, q, l => ⟨q.1, hi_le (h := h) (h' := h') q.2 (by omega)⟩
  | h + 1, h' + 1, .bnn w k n a, q, l => ⟨q.1, hi_le (h := h) (h' := h') q.2 (by omega)⟩
  | h + 1, h' + 1, .nod w ps, q, l => ⟨q.1, fun p hp => hi_le (q.2 p hp) (by omega)⟩
section
variable {K : PySem.W.Frag} {H : Hp}
mutual
theorem At.dp : ∀ {h : Nat} {v : V} {t : T}, At H v t → hi h t → Dp K H v (toD h t)
  | 0, _, _, _, z => z.elim
  | h + 1, _, _, .nam e, _ => .tup (SqT.of e) (.cons (.str _) (.cons (.str _) (.cons (.str _) .nil)))
  | h + 1, _, _, .bnd e, _ => .tup (SqT.of e) (.cons (.str _) (.cons (.int _) .nil))
  | h + 1, _, _, .var e, _ => .tup (SqT.of e) (.cons (.str _) (.cons (.int _) .nil))
  | h + 1, _, _, .mad e e2 l, z => .tup (SqT.of e) (.cons (.str _) (.cons (.str _) (.cons (.tup (SqT.of e2) (AtL.dp l z.2)) .nil)))
  | h + 1, _, _, .bin e l, z => .tup (SqT.of e) (.cons (.str _) (.cons (.str _) (.cons (At.dp l z.2) .nil)))
  | h + 1, _, _, .bnn e l, z => .tup (SqT.of e) (.cons (.str _) (.cons (.str _) (.cons (.int _) (.cons (At.dp l z.2) .nil))))
  | h + 1, _, _, .nod e l, z => .tup (SqT.of e) (.cons (.str _) (AtL.dp l z.2))
theorem AtL.dp : ∀ {h : Nat} {vs : List V} {ts : List T}, AtL H vs ts → (∀ p ∈ ts, hi h p) → DpAll K H vs (ts.map (toD h))
  | _, _, _, .nil, _ => .nil
  | h, _, _, .cons a l, z => .cons (At.dp a (z _ List.mem_cons_self)) (AtL.dp l fun p hp => z p (List.mem_cons_of_mem _ hp))
end
end
end KD

/-! KD2: trees as data: their shape, ==. -/
namespace KD
open PySem PySem.Spec PyProof.Rows L2 LamX NdefX LamF KM
open PySem.PyData
theorem G.strOk {x : Str} (g : G x) : strOk x = true := by
  unfold PySem.PyData.strOk
  rw [Array.all_eq_true_iff_forall_mem]
  intro c hc
  have := (g.2 c (by simpa using hc)).2
  exact decide_eq_true (by omega)
theorem canLay_str (x : Str) (h : strOk x = true) : (PyData.str x).canLay0 = true := by simp only [canLay0]; exact h
theorem strOk_lit : strOk "name" = true ∧ strOk "bound" = true ∧ strOk "var" = true ∧ strOk "made" = true := by decide +kernel
theorem strOk_bw (w : Bw) : strOk w.s = true := by cases w <;> decide +kernel
theorem strOk_nw (w : Nw) : strOk w.s = true := by cases w <;> decide +kernel
theorem canLayAll_map {f : T → PyData} : ∀ (ps : List T), (∀ p ∈ ps, (f p).canLay0 = true) → canLayAll0 (ps.map f) = true
  | [], _ => by simp only [List.map_nil, canLayAll0]
  | p :: ps, h => by
    simp only [List.map_cons, canLayAll0, Bool.and_eq_true]
    exact ⟨h p List.mem_cons_self, canLayAll_map ps fun q hq => h q (List.mem_cons_of_mem _ hq)⟩
theorem canLay_toD : ∀ {h : Nat} {t : T}, hi h t → (toD h t).canLay0 = true
  | 0, _, z => z.elim
  | h + 1, .nam x k, z => by
    simp only [toD, canLay0, canLayAll0, Bool.and_eq_true]
    exact ⟨strOk_lit.1, G.strOk z.1, G.strOk z.2, trivial⟩
  | h + 1, .bnd n, z => by
    simp only [toD, canLay0, canLayAll0, Bool.and_eq_true]
    exact ⟨strOk_lit.2.1, trivial, trivial⟩
  | h + 1, .var n, z => by
    simp only [toD, canLay0, canLayAll0, Bool.and_eq_true]
    exact ⟨strOk_lit.2.2.1, trivial, trivial⟩
  | h + 1, .mad f ps, z => by
    simp only [toD, canLay0, canLayAll0, Bool.and_eq_true]
    exact ⟨strOk_lit.2.2.2, G.strOk z.1.2, canLayAll_map ps fun p hp => canLay_toD (z.2 p hp), trivial⟩
  | h + 1, .bin w k a, z => by
    simp only [toD, canLay0, canLayAll0, Bool.and_eq_true]
    exact ⟨strOk_bw w, G.strOk z.1, canLay_toD z.2, trivial⟩
  | h + 1, .bnn w k n a, z => by
    simp only [toD, canLay0, canLayAll0, Bool.and_eq_true]
    exact ⟨strOk_bw w, G.strOk z.1, trivial, canLay_toD z.2, trivial⟩
  | h + 1, .nod w ps, z => by
    simp only [toD, canLay0, canLayAll0, Bool.and_eq_true]
    exact ⟨strOk_nw w, canLayAll_map ps fun p hp => canLay_toD (z.2 p hp)⟩
theorem depthAll_map {f : T → PyData} {b : Nat} : ∀ (ps : List T), (∀ p ∈ ps, (f p).depth ≤ b) → depthAll (ps.map f) ≤ b
  | [], _ => by simp [depthAll]
  | p :: ps, h => by
    simp only [List.map_cons, depthAll]
    exact Nat.max_le.mpr ⟨h p List.mem_cons_self, depthAll_map ps fun q hq => h q (List.mem_cons_of_mem _ hq)⟩
theorem depth_toD : ∀ {h : Nat} {t : T}, hi h t → (toD h t).depth ≤ 2 * h
  | 0, _, z => z.elim
  | h + 1, .nam x k, z => by simp only [toD, depth, depthAll]; omega
  | h + 1, .bnd n, z => by simp only [toD, depth, depthAll]; omega
  | h + 1, .var n, z => by simp only [toD, depth, depthAll]; omega
  | h + 1, .mad f ps, z => by
    have q := depthAll_map (f := toD h) (b := 2 * h) ps fun p hp => depth_toD (z.2 p hp)
    simp only [toD, depth, depthAll]
    omega
  | h + 1, .bin w k a, z => by
    have q := depth_toD (h := h) z.2
    simp only [toD, depth, depthAll]
    omega
  | h + 1, .bnn w k n a, z => by
    have q := depth_toD (h := h) z.2
    simp only [toD, depth, depthAll]
    omega
  | h + 1, .nod w ps, z => by
    have q := depthAll_map (f := toD h) (b := 2 * h) ps fun p hp => depth_toD (z.2 p hp)
    simp only [toD, depth, depthAll]
    omega
theorem shaped_toD {h : Nat} {t : T} (z : hi h t) (l : h ≤ 32) : SeqAt.shaped (toD h t) = true := by
  unfold SeqAt.shaped
  rw [canLay_toD z, Bool.true_and]
  have := depth_toD z
  exact decide_eq_true (by omega)
theorem eqv_toD {h : Nat} {t : T} (z : hi h t) : PyData.eqv (toD h t) (toD h t) = true := PySem.SeqAt.eqv_refl _ (canLay_toD z)
/-- two equal trees, whatever the measure -/
theorem eqv_same {h : Nat} {t u : T} (z : hi h t) (e : t = u) : PyData.eqv (toD h t) (toD h u) = true := by rw [← e]; exact eqv_toD z
def dNam (x k : Str) : PyData := .tuple [.str "name", .str x, .str k]
def dBnd (n : Nat) : PyData := .tuple [.str "bound", .int n]
def dVar (n : Nat) : PyData := .tuple [.str "var", .int n]
theorem beq_str (x y : Str) : (x == y) = decide (x = y) := by
  rw [Bool.eq_iff_iff]
  simp
theorem bw_ne (w : Bw) : (w.s == ("name" : Str)) = false ∧ (w.s == ("bound" : Str)) = false ∧ (w.s == ("var" : Str)) = false := by cases w <;> decide +kernel
theorem nw_ne (w : Nw) : (w.s == ("name" : Str)) = false ∧ (w.s == ("bound" : Str)) = false ∧ (w.s == ("var" : Str)) = false := by cases w <;> decide +kernel
theorem lit_ne : (("bound" : Str) == ("name" : Str)) = false ∧ (("var" : Str) == ("name" : Str)) = false ∧ (("made" : Str) == ("name" : Str)) = false ∧ (("name" : Str) == ("bound" : Str)) = false ∧ (("var" : Str) == ("bound" : Str)) = false ∧ (("made" : Str) == ("bound" : Str)) = false ∧
    (("name" : Str) == ("var" : Str)) = false ∧ (("bound" : Str) == ("var" : Str)) = false ∧ (("made" : Str) == ("var" : Str)) = false := by decide +kernel
theorem eqv_nam {h : Nat} {x k : Str} : ∀ {t : T}, hi (h + 1) t → PyData.eqv (toD (h + 1) t) (dNam x k) = isN x k t
  | .nam y j, _ => by
    simp only [toD, dNam, eqv, eqvAll, isN, beq_self_eq_true, Bool.true_and, Bool.and_true, beq_str]
    rw [Bool.eq_iff_iff]
    simp
  | .bnd n, _ => by simp only [toD, dNam, eqv, eqvAll, isN, lit_ne.1, Bool.false_and]
  | .var n, _ => by simp only [toD, dNam, eqv, eqvAll, isN, lit_ne.2.1, Bool.false_and]
  | .mad f ps, _ => by simp only [toD, dNam, eqv, eqvAll, isN, lit_ne.2.2.1, Bool.false_and]
  | .bin w j a, _ => by simp only [toD, dNam, eqv, eqvAll, isN, (bw_ne w).1, Bool.false_and]
  | .bnn w j n a, _ => by simp only [toD, dNam, eqv, eqvAll, isN, (bw_ne w).1, Bool.false_and]
  | .nod w ps, _ => by simp only [toD, dNam, eqv, eqvAll, isN, (nw_ne w).1, Bool.false_and]
theorem eqv_var {h m : Nat} : ∀ {t : T}, hi (h + 1) t → PyData.eqv (toD (h + 1) t) (dVar m) = isV m t
  | .nam y j, _ => by simp only [toD, dVar, eqv, eqvAll, isV, lit_ne.2.2.2.2.2.2.1, Bool.false_and]
  | .bnd n, _ => by simp only [toD, dVar, eqv, eqvAll, isV, lit_ne.2.2.2.2.2.2.2.1, Bool.false_and]
  | .var n, _ => by
    simp only [toD, dVar, eqv, eqvAll, isV, beq_self_eq_true, Bool.true_and, Bool.and_true]
    rw [Bool.eq_iff_iff]
    simp
    try exact Int.ofNat_inj
  | .mad f ps, _ => by simp only [toD, dVar, eqv, eqvAll, isV, lit_ne.2.2.2.2.2.2.2.2, Bool.false_and]
  | .bin w j a, _ => by simp only [toD, dVar, eqv, eqvAll, isV, (bw_ne w).2.2, Bool.false_and]
  | .bnn w j n a, _ => by simp only [toD, dVar, eqv, eqvAll, isV, (bw_ne w).2.2, Bool.false_and]
  | .nod w ps, _ => by simp only [toD, dVar, eqv, eqvAll, isV, (nw_ne w).2.2, Bool.false_and]
def isB (n : Nat) : T → Bool
  | .bnd m => decide (m = n)
  | _ => false
theorem eqv_bnd {h m : Nat} : ∀ {t : T}, hi (h + 1) t → PyData.eqv (toD (h + 1) t) (dBnd m) = isB m t
  | .nam y j, _ => by simp only [toD, dBnd, eqv, eqvAll, isB, lit_ne.2.2.2.1, Bool.false_and]
  | .bnd n, _ => by
    simp only [toD, dBnd, eqv, eqvAll, isB, beq_self_eq_true, Bool.true_and, Bool.and_true]
    rw [Bool.eq_iff_iff]
    simp
    try exact Int.ofNat_inj
  | .var n, _ => by simp only [toD, dBnd, eqv, eqvAll, isB, lit_ne.2.2.2.2.1, Bool.false_and]
  | .mad f ps, _ => by simp only [toD, dBnd, eqv, eqvAll, isB, lit_ne.2.2.2.2.2.1, Bool.false_and]
  | .bin w j a, _ => by simp only [toD, dBnd, eqv, eqvAll, isB, (bw_ne w).2.1, Bool.false_and]
  | .bnn w j n a, _ => by simp only [toD, dBnd, eqv, eqvAll, isB, (bw_ne w).2.1, Bool.false_and]
  | .nod w ps, _ => by simp only [toD, dBnd, eqv, eqvAll, isB, (nw_ne w).2.1, Bool.false_and]
theorem shaped_leaf {x k : Str} (hx : G x) (hk : G k) (n : Nat) : SeqAt.shaped (dNam x k) = true ∧ SeqAt.shaped (dBnd n) = true ∧ SeqAt.shaped (dVar n) = true :=
  ⟨shaped_toD (h := 1) (t := .nam x k) ⟨hx, hk⟩ (by decide), shaped_toD (h := 1) (t := .bnd n) trivial (by decide), shaped_toD (h := 1) (t := .var n) trivial (by decide)⟩
/-! ### tuple([F(part) for part in parts]) -/
theorem map_tup {K : PySem.W.Frag} {a D : Addr} {vs : List V} {ps : List T} {H1 : Hp} {σ : L2.St} {te : TE} {i : Nat} {Qd : Hp → Prop} (φ : T → T) (hS : H1 a = some (.tup vs)) (hA : AtL H1 vs ps) (hD : H1 D = Option.none) (hl : ps.length ≤ 3)
    (he : ∀ (j : Nat) (v : V) (p : T) (H2 : Hp), ps[j]? = some p → Same H1 H2 → At H2 v p → ∀ Qe : VK, (∀ y H3, Same H2 H3 → At H3 y (φ p) → Qe y H3) → te ((wipe σ [i]).set i (some v)) H2 Qe) (hw : ∀ v : V, wipe ((wipe σ [i]).set i (some v)) [i] = wipe σ [i])
    (hd : ∀ (H2 : Hp) (ys : List V), Same H1 H2 → H2 D = some (.lst ys) → AtL H2 ys (ps.map φ) → Qd H2) :
    ∃ W : Nat → Nat → Hp → Prop, (∃ m, W 0 m (upd H1 D (.lst []))) ∧ ∀ j m H, W j m H →
      ((Itt K a).stop j H ∧ Qd H) ∨ ((Itt K a).go j H ∧ ∃ Nx : Hp → Prop, (∀ H', Nx H' → ∃ m', m' < m ∧ W (j + 1) m' H') ∧ ∀ x H', (Itt K a).yld j H x H' → gName i x (wipe σ [i]) H' fun σ2 H2 => wipe σ2 [i] = wipe σ [i] ∧ tYes σ2 H2 fun b H3 =>
        if b = true then te σ2 H3 fun y H4 => ∃ acc, H4 D = some (.lst acc) ∧ acc.length < sizeLine ∧ Nx (upd H4 D (.lst (acc ++ [y]))) else Nx H3) := by
  have hlv := hA.length
  refine lc_tup (xs := vs) (fun j H' => Same H1 H' ∧ ∃ ys, H' D = some (.lst ys) ∧ AtL H' ys ((ps.take j).map φ)) ⟨Same.upd hD, [], upd_same, .nil⟩ (fun j H' _ q => SqT.of (q.1 _ _ hS)) (fun j v H' hv q => ?_) (fun H' q => ?_)
  · obtain ⟨s1, ys, hy, hL⟩ := q
    obtain ⟨p, hp, pA⟩ := hA.get hv
    refine ⟨hw v, ?_⟩
    unfold tYes
    simp only [if_true]
    refine he j v p H' hp s1 (pA.mono (.same s1)) _ fun y H3 s3 yA => ?_
    have hy3 := s3 _ _ hy
    have hj : j < ps.length := (List.getElem?_eq_some_iff.mp hp).1
    refine ⟨ys, hy3, small1000 (by rw [hL.length, List.length_map, List.length_take]; omega), fun b o e => ?_, ys ++ [y], upd_same, ?_⟩
    · rw [upd_ne (ne_of_none e hD)]
      exact s3 _ _ (s1 _ _ e)
    · rw [List.take_succ, hp]
      show AtL _ _ (((ps.take j) ++ [p]).map φ)
      rw [List.map_append]
      exact ((hL.mono (.same s3)).snoc yA).mono (TupS.lst hy3)
  · obtain ⟨s1, ys, hy, hL⟩ := q
    rw [hlv, List.take_length] at hL
    exact hd H' ys s1 hy hL
end KD

/-! KD3: _changed. -/
namespace KD
open PySem PySem.Spec PyProof.Rows L2 LamX NdefX LamF KM
theorem boot_tuple : bootBuiltins "tuple" = some (.type "tuple") := by decide +kernel
structure TxtP (K : PySem.W.Frag) (mg : Str → Option Value) (B : Addr) : Prop where
  tuple : mg "tuple" = none
  binds : mg "BINDS" = some (.ref B)
  bindsK : ∀ H : Hp, SqT K H B [.str "all", .str "some"]
/-- what a change of leaves promises: C holds of what it captured -/
def spLf (g : T → Nat → T) (C : Hp → Prop) (c' : Addr) (q : Str) : Sp := fun vs H Q _ => ∃ (v : V) (t : T) (d : Nat), vs = [v, .int d] ∧ H c' = some (CodeO c' q) ∧ C H ∧ At H v t ∧ hi 1 t ∧ (∀ n, t ≠ .var n) ∧ ∀ v' H', Same H H' → At H' v' (g t d) → Q v' H'
def spChg (h : Nat) (g : T → Nat → T) (C : Hp → Prop) (c' : Addr) (q : Str) (f : Addr) : Sp := fun vs H Q _ => ∃ (v : V) (t : T) (d : Nat), vs = [v, .int d, .ref f] ∧ H c' = some (CodeO c' q) ∧ C H ∧ At H v t ∧ (∃ ns ks m, ok ns ks h m t) ∧ ∀ v' H', Same H H' → At H' v' (chg g h d t) → Q v' H'
abbrev sChg : Stmt := top 10
theorem scChg : FnScope ["thing", "deep", "change", "word", "part"] ["thing", "deep", "change"] (defScope sChg) := ⟨rfl, rfl, rfl, by decide +kernel, rfl, by decide +kernel, by decide +kernel⟩
theorem inW : inV (.str "name") [.str "name", .str "bound"] = true ∧ inV (.str "bound") [.str "name", .str "bound"] = true ∧ inV (.str "made") [.str "name", .str "bound"] = false ∧
    (∀ w : Bw, inV (.str w.s) [.str "name", .str "bound"] = false ∧ inV (.str w.s) [.str "all", .str "some"] = true ∧ decide (V.str w.s = V.str "made") = false) ∧
    (∀ w : Nw, inV (.str w.s) [.str "name", .str "bound"] = false ∧ inV (.str w.s) [.str "all", .str "some"] = false ∧ decide (V.str w.s = V.str "made") = false) :=
  ⟨by decide +kernel, by decide +kernel, by decide +kernel, fun w => by cases w <;> decide +kernel, fun w => by cases w <;> decide +kernel⟩
theorem cut1 (x : V) (xs : List V) : ¬ HT.sIx (x :: xs).length 0 (some 1) = 0 ∧ cutV (x :: xs) (some 1) none = xs := by
  have e : HT.sIx (x :: xs).length 0 (some 1) = 1 := by
    have q := HT.sIx_nat (x :: xs).length 0 1
    rw [List.length_cons, Nat.min_eq_left (by omega)] at q
    exact q
  refine ⟨by rw [e]; decide, ?_⟩
  unfold cutV
  rw [e, HT.sIx_none, List.length_cons, Nat.add_sub_cancel]
  show xs.take xs.length = xs
  exact List.take_length
section
variable {P : Program} {w : World} {K : PySem.W.Frag} {mg : Str → Option Value} {base : Heap} {fc f B c' : Addr} {fd fdl : FuncData} {g : T → Nat → T} {C : Hp → Prop} {q : Str}
theorem ok_chg (F : Fun K "_changed" "_changed" sChg fc fd) (b : Binds K fd ["thing", "deep", "change"] []) (m : mg "_changed" = some (.ref fc)) (X : TxtP K mg B) (L : FnOk P w K mg base CX0 1 f fdl ["leaf", "deep"] (spLf g C c' q)) (bl : Binds K fdl ["leaf", "deep"] []) (al : PySem.W.FnAt f base)
    (CS : ∀ H H', Same H H' → C H → C H') : ∀ h, FnOk P w K mg base CX0 (2 + h) fc fd ["thing", "deep", "change"] (spChg h g C c' q f)
  | 0 => by
    rw [show 2 + 0 = 1 + 1 from rfl]
    refine F.ok scChg (fun vs H Q E h => ?_) (fun cdv A0 outer s H vs Q E hr h => ?_)
    · obtain ⟨v, t, d, rfl, _⟩ := h
      rfl
    · obtain ⟨_, _, _, _, _, _, _, ⟨_, _, _, z⟩, _⟩ := h
      exact z.elim
  | h + 1 => by
    have IH := ok_chg F b m X L bl al CS h
    rw [show 2 + (h + 1) = (2 + h) + 1 by omega]
    refine F.ok scChg (fun vs H Q E h => ?_) (fun cdv A0 outer s H vs Q E hr hh => ?_)
    · obtain ⟨v, t, d, rfl, _⟩ := h
      rfl
    obtain ⟨v, t, d, rfl, hc, hC, hA, hok, k⟩ := hh
    refine ⟨_, pss_cons (ps_set (i := 3) scChg.nd rfl (Or.inl rfl) (pe_ix ix_tup (pv 0) pe_int (fun _ _ => rfl)))
      (pss_cons (ps_if (pt_cmpR op_in_seq (pv 3) (pe_tup (pa_cons pe_str (pa_cons pe_str pa_nil))) (by rfl)) (pss_one (ps_ret (pe_callBs (i := 2) L al (hr.mono (by omega)) rfl (Or.inr (Or.inl rfl)) bl (pa_cons (pv 0) (pa_cons (pv 1) pa_nil))))) pss_nil)
      (pss_cons (ps_if (pt_cmpR op_eq (pv 3) pe_str (nomark _)) (pss_one (ps_ret (pe_tup (pa_cons pe_str (pa_cons (pe_ix ix_tup (pv 0) pe_int (fun _ _ => rfl)) (pa_cons (pe_callTy call_tuple_of (by rfl) X.tuple boot_tuple (pa_cons
        (pe_lc (own := [("part", 4)]) (g := gName 4) (tt := tYes) rfl scChg.nd (pi_tup (pe_ix ix_tup (pv 0) pe_int (fun _ _ => rfl))) (blkOk_by (N := ["thing", "deep", "change", "word", "part"]) (sc := defScope sChg) (by decide +kernel)) (fun _ _ _ _ _ => pg_name (i := 4) scChg.nd rfl (Or.inl rfl)) (fun _ _ _ _ _ => pts_nil)
          (fun _ _ _ _ _ => pe_call IH hr rfl m F.kp b .nil pass0 (pa_cons (pv 4) (pa_cons (pv 1) (pa_cons (pv 2) pa_nil))))) pa_nil)) pa_nil)))))) pss_nil)
      (pss_cons (ps_if (pt_cmpR op_in_seq (pv 3) (pe_glob (v := .ref B) rfl X.binds rfl) (by rfl)) (pss_one (ps_ret (pe_tup (pa_cons (pv 3) (pa_cons (pe_ix ix_tup (pv 0) pe_int (fun _ _ => rfl)) (pa_cons (pe_call IH hr rfl m F.kp b .nil pass0
        (pa_cons (pe_ix ix_tup (pv 0) pe_int (fun _ _ => rfl)) (pa_cons (pe_op op_add (pv 1) pe_int) (pa_cons (pv 2) pa_nil)))) pa_nil)))))) pss_nil)
      (pss_one (ps_ret (pe_op op_catA (pe_tup (pa_cons (pv 3) pa_nil)) (pe_callTy call_tuple_of (by rfl) X.tuple boot_tuple (pa_cons
        (pe_lc (own := [("part", 4)]) (g := gName 4) (tt := tYes) rfl scChg.nd (pi_tup (pe_slice sl_tupA (pv 0) (po_some pe_int) po_none)) (blkOk_by (N := ["thing", "deep", "change", "word", "part"]) (sc := defScope sChg) (by decide +kernel)) (fun _ _ _ _ _ => pg_name (i := 4) scChg.nd rfl (Or.inl rfl)) (fun _ _ _ _ _ => pts_nil)
          (fun _ _ _ _ _ => pe_call IH hr rfl m F.kp b .nil pass0 (pa_cons (pv 4) (pa_cons (pv 1) (pa_cons (pv 2) pa_nil))))) pa_nil)))))))), ?_⟩
    obtain ⟨ns, ks, m', hok⟩ := hok
    have two : (2 : Nat) ≤ sizeLine := by decide
    have mono : ∀ {H' : Hp}, Same H H' → H' c' = some (CodeO c' q) ∧ C H' := fun {H'} s => ⟨s _ _ hc, CS _ _ s hC⟩
    cases hA with
    | nam e =>
      refine ⟨_, rfl, _, _, _, _, rfl, rfl, SqT.of e, rfl, ?_⟩
      refine ⟨_, rfl, two, fun p hp => ⟨p, _, rfl, .inr (SqT.of upd_same), rfl, rfl, true, congrArg V.bl inW.1, iteT ?_⟩⟩
      have s1 : Same H (upd H p (.tup [.str "name", .str "bound"])) := Same.upd hp
      exact ⟨rfl, _, rfl, _, rfl, _, _, d, rfl, (mono s1).1, (mono s1).2, .nam (s1 _ _ e), ⟨hok.1.2, hok.2.2⟩, (fun n z => nomatch z), fun v' H' s a => k v' H' (s1.trans s) a⟩
    | bnd e =>
      refine ⟨_, rfl, _, _, _, _, rfl, rfl, SqT.of e, rfl, ?_⟩
      refine ⟨_, rfl, two, fun p hp => ⟨p, _, rfl, .inr (SqT.of upd_same), rfl, rfl, true, congrArg V.bl inW.2.1, iteT ?_⟩⟩
      have s1 : Same H (upd H p (.tup [.str "name", .str "bound"])) := Same.upd hp
      exact ⟨rfl, _, rfl, _, rfl, _, _, d, rfl, (mono s1).1, (mono s1).2, .bnd (s1 _ _ e), trivial, (fun n z => nomatch z), fun v' H' s a => k v' H' (s1.trans s) a⟩
    | var e => exact hok.elim
    | mad e e2 l =>
      rename_i a0 b0 f0 vs0 ps0
      refine ⟨_, rfl, _, _, _, _, rfl, rfl, SqT.of e, rfl, ?_⟩
      refine ⟨_, rfl, two, fun p hp => ⟨p, _, rfl, .inr (SqT.of upd_same), rfl, rfl, false, congrArg V.bl inW.2.2.1, iteF ?_⟩⟩
      have s1 : Same H (upd H p (.tup [.str "name", .str "bound"])) := Same.upd hp
      generalize upd H p (.tup [.str "name", .str "bound"]) = H1 at s1 ⊢
      refine ⟨_, rfl, rfl, true, congrArg V.bl (decide_eq_true rfl), iteT ?_⟩
      refine ⟨_, rfl, _, _, _, _, rfl, rfl, SqT.of (s1 _ _ e), rfl, ?_⟩
      refine ⟨_, rfl, _, _, _, _, rfl, rfl, SqT.of (s1 _ _ e), rfl, _, rfl, ⟨_, SqT.of (s1 _ _ e2)⟩, fun D hD => ?_⟩
      refine map_tup (K := K) (chg g h d) (s1 _ _ e2) (l.mono (.same s1)) hD hok.1.1 (fun j v p H2 hp s2 pA Qe kq => ?_) (fun v => rfl) (fun H2 ys s2 hy hL => ?_)
      · exact ⟨_, rfl, _, rfl, _, rfl, _, p, d, rfl, (mono (s1.trans s2)).1, (mono (s1.trans s2)).2, pA, ⟨ns, ks, m', hok.2 p (List.mem_of_getElem? hp)⟩, kq⟩
      · refine ⟨D, ys, rfl, .inl ⟨SqL.of hy, fun r hr => ⟨by show 3 ≤ sizeLine; decide, fun u hu => ?_⟩⟩⟩
        have s3 : Same H2 (upd H2 r (.tup ys)) := Same.upd hr
        have s4 : Same (upd H2 r (.tup ys)) (upd (upd H2 r (.tup ys)) u (.tup [V.str "made", V.str f0, V.ref r])) := Same.upd hu
        exact k _ _ (((s1.trans s2).trans s3).trans s4) (.mad upd_same (s4 _ _ upd_same) ((hL.mono (.same s3)).mono (.same s4)))
    | bin e l =>
      rename_i a0 w0 k0 v0 t0
      obtain ⟨w1, w2, w3⟩ := inW.2.2.2.1 w0
      refine ⟨_, rfl, _, _, _, _, rfl, rfl, SqT.of e, rfl, ?_⟩
      refine ⟨_, rfl, two, fun p hp => ⟨p, _, rfl, .inr (SqT.of upd_same), rfl, rfl, false, congrArg V.bl w1, iteF ?_⟩⟩
      have s1 : Same H (upd H p (.tup [.str "name", .str "bound"])) := Same.upd hp
      generalize upd H p (.tup [.str "name", .str "bound"]) = H1 at s1 ⊢
      refine ⟨_, rfl, rfl, false, congrArg V.bl w3, iteF ?_⟩
      refine ⟨_, rfl, B, _, rfl, .inr (X.bindsK _), rfl, rfl, true, congrArg V.bl w2, iteT ?_⟩
      refine ⟨_, rfl, _, rfl, _, _, _, _, rfl, rfl, SqT.of (s1 _ _ e), rfl, ?_⟩
      refine ⟨_, rfl, _, _, _, _, rfl, rfl, SqT.of (s1 _ _ e), rfl, _, rfl, _, _, rfl, rfl, _, rfl, ?_⟩
      refine ⟨_, t0, d + 1, rfl, (mono s1).1, (mono s1).2, l.mono (.same s1), ⟨ns, ks, _, hok.2⟩, fun v' H' s2 a => ⟨by show 3 ≤ sizeLine; decide, fun u hu => ?_⟩⟩
      have s3 : Same H' (upd H' u (.tup [.str w0.s, .str k0, v'])) := Same.upd hu
      exact k _ _ ((s1.trans s2).trans s3) (.bin upd_same (a.mono (.same s3)))
    | bnn e l => exact hok.elim
    | nod e l =>
      rename_i a0 w0 vs0 ps0
      obtain ⟨w1, w2, w3⟩ := inW.2.2.2.2 w0
      refine ⟨_, rfl, _, _, _, _, rfl, rfl, SqT.of e, atI_nat (j := 0) rfl, ?_⟩
      refine ⟨_, rfl, two, fun p hp => ⟨p, _, rfl, .inr (SqT.of upd_same), rfl, rfl, false, congrArg V.bl w1, iteF ?_⟩⟩
      have s1 : Same H (upd H p (.tup [.str "name", .str "bound"])) := Same.upd hp
      generalize upd H p (.tup [.str "name", .str "bound"]) = H1 at s1 ⊢
      refine ⟨_, rfl, rfl, false, congrArg V.bl w3, iteF ?_⟩
      refine ⟨_, rfl, B, _, rfl, .inr (X.bindsK _), rfl, rfl, false, congrArg V.bl w2, iteF ?_⟩
      refine ⟨_, rfl, by show 1 ≤ sizeLine; decide, fun r hr => ?_⟩
      have s2 : Same H1 (upd H1 r (.tup [.str w0.s])) := Same.upd hr
      have hr2 : upd H1 r (.tup [.str w0.s]) r = some (.tup [.str w0.s]) := upd_same
      generalize upd H1 r (.tup [.str w0.s]) = H2 at s2 hr2 ⊢
      have s02 := s1.trans s2
      refine ⟨_, rfl, ?_⟩
      refine ⟨1, rfl, _, _, rfl, SqT.of (s02 _ _ e), fun z => ?_, fun _ p3 hp3 => ?_⟩
      · exact absurd z.1 (cut1 _ _).1
      rw [(cut1 _ _).2]
      have s3 : Same H2 (upd H2 p3 (.tup vs0)) := Same.upd hp3
      refine ⟨p3, rfl, ⟨_, SqT.of upd_same⟩, fun D hD => ?_⟩
      have s03 := s02.trans s3
      refine map_tup (K := K) (chg g h d) upd_same (l.mono (.same s03)) hD (Nat.le_trans hok.1 (by decide)) (fun j v p H4 hp s4 pA Qe kq => ?_) (fun v => rfl) (fun H4 ys s4 hy hL => ?_)
      · exact ⟨_, rfl, _, rfl, _, rfl, _, p, d, rfl, (mono (s03.trans s4)).1, (mono (s03.trans s4)).2, pA, ⟨ns, ks, m', hok.2 p (List.mem_of_getElem? hp)⟩, kq⟩
      · refine ⟨D, ys, rfl, .inl ⟨SqL.of hy, fun u hu => ?_⟩⟩
        have s5 : Same H4 (upd H4 u (.tup ys)) := Same.upd hu
        have hll : ys.length ≤ 2 := by rw [hL.length, List.length_map]; exact hok.1
        refine ⟨r, u, [.str w0.s], ys, rfl, rfl, SqT.of (s5 _ _ (s4 _ _ (s3 _ _ hr2))), SqT.of upd_same, Nat.le_of_lt (small1000 (by show 1 + _ ≤ 1000; omega)), (fun z => nomatch z), fun _ z => ?_, fun _ _ x hx => ?_⟩
        · refine k _ _ ((s03.trans s4).trans s5) (.nod (vs := []) (s5 _ _ (s4 _ _ (s3 _ _ hr2))) ?_)
          rw [z] at hL
          exact hL.mono (.same s5)
        · have s6 : Same (upd H4 u (.tup ys)) (upd (upd H4 u (.tup ys)) x (.tup ([.str w0.s] ++ ys))) := Same.upd hx
          exact k _ _ (((s03.trans s4).trans s5).trans s6) (.nod upd_same ((hL.mono (.same s5)).mono (.same s6)))
end
end KD

/-! KD4: opened, shut, put_in. -/
namespace KD
open PySem PySem.Spec PyProof.Rows L2 LamX NdefX LamF KM
/-- a def whose code object is c -/
structure FunC (K : PySem.W.Frag) (x qual : Str) (st : Stmt) (f : Addr) (fd : FuncData) (c : Addr) : Prop where
  ex : ∃ (oc : Value) (od : Option Addr) (kV doc pm : Value) (an : Option Addr) (ct : Value) (osl : Array (Option Value)),
    fd = PySem.W.fnOf x qual (defArgs st) (defBody st) (defScope st) .none kV doc pm an (.ref c) ct ∧ K.lookup f = some ⟨oc, od, .func fd, osl⟩ ∧ PySem.W.codeIn K (.ref c) qual = true
  kp : PySem.W.keepIn K (.ref f) = true
theorem FunC.ok {P : Program} {w : World} {K : PySem.W.Frag} {mg : Str → Option Value} {base : Heap} {x qual : Str} {st : Stmt} {f : Addr} {fd : FuncData} {c : Addr} {N ps : List Str} {k : Nat} {sp : Sp} (F : FunC K x qual st f fd c) (S : FnScope N ps (defScope st)) (len : ∀ vs H Q E, sp vs H Q E → vs.length = ps.length)
    (hbody : ∀ (A : Around) (outer : List Env) (s : Shared) (H : Hp) (vs : List V) (Q : VK) (E : XK), Room k (A.deeper (envOfC qual (defScope st) s.heap.objs.size f (.ref c))) → sp vs H Q E →
      ∃ t, PSs (cxOf CX0 P w K mg base N qual (defScope st) f (.ref c) A outer s H E).nox (defBody st) t ∧ t { nx := fun _ H' => Q .non H', rt := Q } (start N vs) H) : FnOk P w K mg base CX0 (k + 1) f fd ps sp := by
  obtain ⟨oc, od, kV, doc, pm, an, ct, osl, rfl, lk, hcd⟩ := F.ex
  refine fn_of lk hcd S len fun A outer s H vs Q E hr hsp => ?_
  obtain ⟨t, h, q⟩ := hbody A outer s H vs Q E hr hsp
  exact ⟨t, h.nox, q⟩
/-- the names of the three lambdas -/
def qOp : Str := ("opened" : Str) ++ ".<locals>." ++ "<lambda>"
def qSh : Str := ("shut" : Str) ++ ".<locals>." ++ "<lambda>"
def qPu : Str := ("put_in" : Str) ++ ".<locals>." ++ "<lambda>"
theorem extN_tup {H H' : Hp} (e : ExtN H H') : TupS H H' := fun b xs h => e b _ h (fun ps z => nomatch z)
theorem extN_same {H H' : Hp} (e : Same H H') : ExtN H H' := fun b o h _ => e b o h
theorem tabs_same {Ts : List (Addr × Str)} {H H' : Hp} (t : Tabs Ts H) (e : Same H H') : Tabs Ts H' := t.ext e
def spOpened (Ts : List (Addr × Str)) (h : Nat) : Sp := fun vs H Q _ => ∃ (v tv : V) (t term : T), vs = [v, tv] ∧ At H v t ∧ (∃ ns ks m, ok ns ks h m t) ∧ At H tv term ∧ Tabs Ts H ∧ ∀ v' H', ExtN H H' → Tabs Ts H' → At H' v' (chg (gOpen term) h 0 t) → Q v' H'
def spShut (Ts : List (Addr × Str)) (h : Nat) : Sp := fun vs H Q _ => ∃ (v : V) (t : T) (x k : Str), vs = [v, .str x, .str k] ∧ At H v t ∧ (∃ ns ks m, ok ns ks h m t) ∧ G x ∧ G k ∧ Tabs Ts H ∧ ∀ v' H', ExtN H H' → Tabs Ts H' → At H' v' (chg (gShut x k) h 0 t) → Q v' H'
def spPut (Ts : List (Addr × Str)) (h : Nat) : Sp := fun vs H Q _ => ∃ (v tv : V) (t term : T) (x k : Str), vs = [v, .str x, .str k, tv] ∧ At H v t ∧ (∃ ns ks m, ok ns ks h m t) ∧ G x ∧ G k ∧ At H tv term ∧ Tabs Ts H ∧ ∀ v' H', ExtN H H' → Tabs Ts H' → At H' v' (chg (gPut x k term) h 0 t) → Q v' H'
theorem scOp : FnScope ["body", "term"] ["body", "term"] (defScope (top 5)) := ⟨rfl, rfl, rfl, by decide +kernel, rfl, by decide +kernel, by decide +kernel⟩
theorem scO : FnScope ["thing", "meant", "term", "word", "part"] ["thing", "meant", "term"] (defScope (top 6)) := ⟨rfl, rfl, rfl, by decide +kernel, rfl, by decide +kernel, by decide +kernel⟩
theorem scDp : FnScope ["meant"] ["meant"] (defScope (top 7)) := ⟨rfl, rfl, rfl, by decide +kernel, rfl, by decide +kernel, by decide +kernel⟩
def spDeeper : Sp := fun vs H Q _ => ∃ (a : Addr) (d : Nat), vs = [.ref a] ∧ H a = some (.tup [.str "bound", .int d]) ∧ ∀ r H', Same H H' → H' r = some (.tup [.str "bound", .int ((d + 1 : Nat) : Int)]) → Q (.ref r) H'
def spOpn (h : Nat) : Sp := fun vs H Q _ => ∃ (v mv tv : V) (t : T) (d : Nat) (term : T), vs = [v, mv, tv] ∧ At H v t ∧ (∃ ns ks m, ok ns ks h m t) ∧ At H mv (.bnd d) ∧ At H tv term ∧ ∀ v' H', Same H H' → At H' v' (chg (gOpen term) h d t) → Q v' H'
theorem inO : (decide (V.str "name" = V.str "made") = false ∧ decide (V.str "name" = V.str "bound") = false ∧ decide (V.str "name" = V.str "name") = true) ∧ (decide (V.str "bound" = V.str "made") = false ∧ decide (V.str "bound" = V.str "bound") = true) ∧
    (∀ w : Bw, decide (V.str w.s = V.str "made") = false ∧ decide (V.str w.s = V.str "bound") = false ∧ decide (V.str w.s = V.str "name") = false ∧ inV (.str w.s) [.str "all", .str "some"] = true) ∧
    (∀ w : Nw, decide (V.str w.s = V.str "made") = false ∧ decide (V.str w.s = V.str "bound") = false ∧ decide (V.str w.s = V.str "name") = false ∧ inV (.str w.s) [.str "all", .str "some"] = false) :=
  ⟨by decide +kernel, by decide +kernel, fun w => by cases w <;> decide +kernel, fun w => by cases w <;> decide +kernel⟩
theorem scSh : FnScope ["saying", "x", "kind"] ["saying", "x", "kind"] (defScope (top 8)) := ⟨rfl, rfl, rfl, by decide +kernel, rfl, by decide +kernel, by decide +kernel⟩
theorem scPu : FnScope ["saying", "x", "kind", "term"] ["saying", "x", "kind", "term"] (defScope (top 9)) := ⟨rfl, rfl, rfl, by decide +kernel, rfl, by decide +kernel, by decide +kernel⟩
/-- the lambda's scope in such a def -/
def lamSc (st : Stmt) : Scope := match defBody st with
  | [.Return (some (.Call _ [_, _, .Lambda _ _ sc _] _ _)) _] => sc
  | _ => { kind := .function, names := [], isGenerator := false, isCoroutine := false }
def lamB (sc nsc : Scope) (fr : List Str) : Bool := (nsc.names.all fun y => !decide (y.2 = .free) || decide (sc.names.lookup y.1 = some .cell)) && fr.all fun y => decide ((y, NameKind.free) ∈ nsc.names)
theorem free_of {sc nsc : Scope} {fr : List Str} (h : lamB sc nsc fr = true) : (∀ y ∈ nsc.names, y.2 = .free → sc.names.lookup y.1 = some .cell ∨ sc.names.lookup y.1 = some .free) ∧ ∀ y ∈ fr, (y, NameKind.free) ∈ nsc.names := by
  unfold lamB at h
  rw [Bool.and_eq_true, List.all_eq_true, List.all_eq_true] at h
  refine ⟨fun y hy e => ?_, fun y hy => of_decide_eq_true (h.2 y hy)⟩
  have q := h.1 y hy
  rw [e] at q
  exact .inl (of_decide_eq_true (by simpa using q))
theorem fSh : lamB (defScope (top 8)) (lamSc (top 8)) ["x", "kind"] = true := by decide +kernel
theorem fPu : lamB (defScope (top 9)) (lamSc (top 9)) ["x", "kind", "term"] = true := by decide +kernel
theorem nSh : nscB ["leaf", "deep", "x", "kind"] ["leaf", "deep"] ["x", "kind"] (lamSc (top 8)) = true := by decide +kernel
theorem nPu : nscB ["leaf", "deep", "x", "kind", "term"] ["leaf", "deep"] ["x", "kind", "term"] (lamSc (top 9)) = true := by decide +kernel
theorem gX : G "x" := by
  unfold G
  decide +kernel
theorem u64 {A : Around} {k : Nat} (hr : Room k A) : A.units + 64 < cLine := by
  have := hr.un
  omega
section
variable {P : Program} {w : World} {K : PySem.W.Frag} {mg : Str → Option Value} {base : Heap} {fo fc fq B c p : Addr} {fd fdc fdq : FuncData} {Ts : List (Addr × Str)}
theorem ok_deeper (F : Fun K "_deeper" "_deeper" (top 7) fo fd) : FnOk P w K mg base CX0 1 fo fd ["meant"] spDeeper := by
  refine F.ok scDp (fun vs H Q E h => ?_) (fun cdv A0 outer s H vs Q E hr hh => ?_)
  · obtain ⟨a, d, rfl, _⟩ := h
    rfl
  obtain ⟨a, d, rfl, hm, k⟩ := hh
  refine ⟨_, pss_one (ps_ret (pe_tup (pa_cons pe_str (pa_cons (pe_op op_add (pe_ix ix_tup (pv 0) pe_int (fun _ _ => rfl)) pe_int) pa_nil)))), ?_⟩
  refine ⟨_, rfl, _, _, _, _, rfl, rfl, SqT.of hm, rfl, _, _, rfl, rfl, by show 2 ≤ sizeLine; decide, fun p hp => ?_⟩
  exact k p _ (Same.upd hp) upd_same
theorem ok_op (F : Fun K "_opened" "_opened" (top 6) fo fd) (b : Binds K fd ["thing", "meant", "term"] []) (m : mg "_opened" = some (.ref fo)) (Fp : Fun K "_deeper" "_deeper" (top 7) fc fdc) (bp : Binds K fdc ["meant"] []) (mp : mg "_deeper" = some (.ref fc)) (X : TxtP K mg B) :
    ∀ h, FnOk P w K mg base CX0 (2 + h) fo fd ["thing", "meant", "term"] (spOpn h)
  | 0 => by
    rw [show 2 + 0 = 1 + 1 from rfl]
    refine F.ok scO (fun vs H Q E h => ?_) (fun cdv A0 outer s H vs Q E hr h => ?_)
    · obtain ⟨v, mv, tv, t, d, term, rfl, _⟩ := h
      rfl
    · obtain ⟨_, _, _, _, _, _, _, _, ⟨_, _, _, z⟩, _⟩ := h
      exact z.elim
  | h + 1 => by
    have IH := ok_op F b m Fp bp mp X h
    rw [show 2 + (h + 1) = (2 + h) + 1 by omega]
    refine F.ok scO (fun vs H Q E h => ?_) (fun cdv A0 outer s H vs Q E hr hh => ?_)
    · obtain ⟨v, mv, tv, t, d, term, rfl, _⟩ := h
      rfl
    obtain ⟨v, mv, tv, t, d, term, rfl, hA, hok, hM, hT, k⟩ := hh
    refine ⟨_, pss_cons (ps_set (i := 3) scO.nd rfl (Or.inl rfl) (pe_ix ix_tup (pv 0) pe_int (fun _ _ => rfl)))
      (pss_cons (ps_if (pt_cmpR op_eq (pv 3) pe_str (nomark _)) (pss_one (ps_ret (pe_ifExp (pt_truth (pe_ix ix_tup (pv 0) pe_int (fun _ _ => rfl)) (by intro _; rfl)) (pe_tup (pa_cons (pv 3) (pa_cons (pe_ix ix_tup (pv 0) pe_int (fun _ _ => rfl)) (pa_cons (pe_callTy call_tuple_of (by rfl) X.tuple boot_tuple (pa_cons
        (pe_lc (own := [("part", 4)]) (g := gName 4) (tt := tYes) rfl scO.nd (pi_tup (pe_ix ix_tup (pv 0) pe_int (fun _ _ => rfl))) (blkOk_by (N := ["thing", "meant", "term", "word", "part"]) (sc := defScope (top 6)) (by decide +kernel)) (fun _ _ _ _ _ => pg_name (i := 4) scO.nd rfl (Or.inl rfl)) (fun _ _ _ _ _ => pts_nil)
          (fun _ _ _ _ _ => pe_call IH hr rfl m F.kp b .nil pass0 (pa_cons (pv 4) (pa_cons (pv 1) (pa_cons (pv 2) pa_nil))))) pa_nil)) pa_nil)))) (pv 0)))) pss_nil)
      (pss_cons (ps_if (pt_cmpR op_eq (pv 3) pe_str (nomark _)) (pss_one (ps_ret (pe_ifExp (pt_cmpR (op_eqD (u64 hr)) (pv 0) (pv 1) (nomark _)) (pv 2) (pv 0)))) pss_nil)
      (pss_cons (ps_if (pt_cmpR op_eq (pv 3) pe_str (nomark _)) (pss_one (ps_ret (pv 0))) pss_nil)
      (pss_cons (ps_if (pt_cmpR op_in_seq (pv 3) (pe_glob (v := .ref B) rfl X.binds rfl) (by rfl)) (pss_one (ps_ret (pe_tup (pa_cons (pv 3) (pa_cons (pe_ix ix_tup (pv 0) pe_int (fun _ _ => rfl)) (pa_cons (pe_call IH hr rfl m F.kp b .nil pass0
        (pa_cons (pe_ix ix_tup (pv 0) pe_int (fun _ _ => rfl)) (pa_cons (pe_call (ok_deeper Fp) (hr.mono (by omega)) rfl mp Fp.kp bp .nil pass0 (pa_cons (pv 1) pa_nil)) (pa_cons (pv 2) pa_nil)))) pa_nil)))))) pss_nil)
      (pss_one (ps_ret (pe_op op_catA (pe_tup (pa_cons (pv 3) pa_nil)) (pe_callTy call_tuple_of (by rfl) X.tuple boot_tuple (pa_cons
        (pe_lc (own := [("part", 4)]) (g := gName 4) (tt := tYes) rfl scO.nd (pi_tup (pe_slice sl_tupA (pv 0) (po_some pe_int) po_none)) (blkOk_by (N := ["thing", "meant", "term", "word", "part"]) (sc := defScope (top 6)) (by decide +kernel)) (fun _ _ _ _ _ => pg_name (i := 4) scO.nd rfl (Or.inl rfl)) (fun _ _ _ _ _ => pts_nil)
          (fun _ _ _ _ _ => pe_call IH hr rfl m F.kp b .nil pass0 (pa_cons (pv 4) (pa_cons (pv 1) (pa_cons (pv 2) pa_nil))))) pa_nil))))))))), ?_⟩
    obtain ⟨ns, ks, m', hok⟩ := hok
    cases hA with
    | nam e =>
      refine ⟨_, rfl, _, _, _, _, rfl, rfl, SqT.of e, rfl, ?_⟩
      refine ⟨_, rfl, rfl, false, congrArg V.bl inO.1.1, iteF ?_⟩
      refine ⟨_, rfl, rfl, false, congrArg V.bl inO.1.2.1, iteF ?_⟩
      refine ⟨_, rfl, rfl, true, congrArg V.bl (decide_eq_true rfl), iteT ?_⟩
      exact ⟨_, rfl, k _ _ (Same.refl H) (.nam e)⟩
    | bnd e =>
      rename_i a0 n0
      refine ⟨_, rfl, _, _, _, _, rfl, rfl, SqT.of e, rfl, ?_⟩
      refine ⟨_, rfl, rfl, false, congrArg V.bl inO.2.1.1, iteF ?_⟩
      refine ⟨_, rfl, rfl, true, congrArg V.bl (decide_eq_true rfl), iteT ?_⟩
      have gl : chg (gOpen term) (h + 1) d (.bnd n0) = if isB d (.bnd n0) = true then term else .bnd n0 := by
        show (if n0 = d then term else T.bnd n0) = _
        by_cases z : n0 = d
        · rw [if_pos z, if_pos (by simp [isB, z])]
        · rw [if_neg z, if_neg (by simp [isB, z])]
      refine ⟨_, rfl, _, rfl, _, _, (At.bnd e).dp (h := 1) trivial, hM.dp (h := 1) trivial, shaped_toD (h := 1) (t := .bnd n0) trivial (by decide), shaped_toD (h := 1) (t := .bnd d) trivial (by decide), _, rfl, ?_⟩
      rw [show PyData.eqv (toD 1 (.bnd n0)) (toD 1 (.bnd d)) = isB d (.bnd n0) from eqv_bnd (h := 0) (t := .bnd n0) trivial]
      refine ite2 (fun e2 => ⟨_, rfl, k _ _ (Same.refl H) ?_⟩) (fun e2 => ⟨_, rfl, k _ _ (Same.refl H) ?_⟩)
      · rw [gl, if_pos e2]
        exact hT
      · rw [gl, if_neg e2]
        exact .bnd e
    | var e => exact hok.elim
    | mad e e2 l =>
      rename_i a0 b0 f0 vs0 ps0
      refine ⟨_, rfl, _, _, _, _, rfl, rfl, SqT.of e, rfl, ?_⟩
      refine ⟨_, rfl, rfl, true, congrArg V.bl (decide_eq_true rfl), iteT ?_⟩
      refine ⟨_, rfl, _, _, _, _, rfl, rfl, SqT.of e, rfl, !vs0.isEmpty, .inr (.inl ⟨_, SqT.of e2, rfl⟩), ?_⟩
      cases vs0 with
      | nil =>
        refine iteF ⟨_, rfl, k _ _ (Same.refl H) ?_⟩
        cases l
        exact .mad e e2 .nil
      | cons v1 vs1 =>
      refine iteT ⟨_, rfl, ?_⟩
      refine ⟨_, rfl, _, _, _, _, rfl, rfl, SqT.of e, rfl, ?_⟩
      refine ⟨_, rfl, _, _, _, _, rfl, rfl, SqT.of e, rfl, _, rfl, ⟨_, SqT.of e2⟩, fun D hD => ?_⟩
      refine map_tup (K := K) (chg (gOpen term) h d) e2 l hD hok.1.1 (fun j v p H2 hp s2 pA Qe kq => ?_) (fun v => rfl) (fun H2 ys s2 hy hL => ?_)
      · exact ⟨_, rfl, _, rfl, _, rfl, _, _, _, p, d, term, rfl, pA, ⟨ns, ks, m', hok.2 p (List.mem_of_getElem? hp)⟩, hM.mono (.same s2), hT.mono (.same s2), kq⟩
      · refine ⟨D, ys, rfl, .inl ⟨SqL.of hy, fun r hr => ⟨by show 3 ≤ sizeLine; decide, fun u hu => ?_⟩⟩⟩
        have s3 : Same H2 (upd H2 r (.tup ys)) := Same.upd hr
        have s4 : Same (upd H2 r (.tup ys)) (upd (upd H2 r (.tup ys)) u (.tup [V.str "made", V.str f0, V.ref r])) := Same.upd hu
        exact k _ _ ((s2.trans s3).trans s4) (.mad upd_same (s4 _ _ upd_same) ((hL.mono (.same s3)).mono (.same s4)))
    | bin e l =>
      rename_i a0 w0 k0 v0 t0
      obtain ⟨w1, w2, w3, w4⟩ := inO.2.2.1 w0
      refine ⟨_, rfl, _, _, _, _, rfl, rfl, SqT.of e, rfl, ?_⟩
      refine ⟨_, rfl, rfl, false, congrArg V.bl w1, iteF ?_⟩
      refine ⟨_, rfl, rfl, false, congrArg V.bl w2, iteF ?_⟩
      refine ⟨_, rfl, rfl, false, congrArg V.bl w3, iteF ?_⟩
      refine ⟨_, rfl, B, _, rfl, .inr (X.bindsK _), rfl, rfl, true, congrArg V.bl w4, iteT ?_⟩
      refine ⟨_, rfl, _, rfl, _, _, _, _, rfl, rfl, SqT.of e, rfl, ?_⟩
      cases hM with
      | bnd eM =>
      refine ⟨_, rfl, _, _, _, _, rfl, rfl, SqT.of e, rfl, _, rfl, _, d, rfl, eM, fun r H1 s1 er => ?_⟩
      refine ⟨_, rfl, _, _, _, t0, d + 1, term, rfl, l.mono (.same s1), ⟨ns, ks, _, hok.2⟩, .bnd er, hT.mono (.same s1), fun v' H' s2 a => ⟨by show 3 ≤ sizeLine; decide, fun u hu => ?_⟩⟩
      have s3 : Same H' (upd H' u (.tup [.str w0.s, .str k0, v'])) := Same.upd hu
      exact k _ _ ((s1.trans s2).trans s3) (.bin upd_same (a.mono (.same s3)))
    | bnn e l => exact hok.elim
    | nod e l =>
      rename_i a0 w0 vs0 ps0
      obtain ⟨w1, w2, w3, w4⟩ := inO.2.2.2 w0
      refine ⟨_, rfl, _, _, _, _, rfl, rfl, SqT.of e, atI_nat (j := 0) rfl, ?_⟩
      refine ⟨_, rfl, rfl, false, congrArg V.bl w1, iteF ?_⟩
      refine ⟨_, rfl, rfl, false, congrArg V.bl w2, iteF ?_⟩
      refine ⟨_, rfl, rfl, false, congrArg V.bl w3, iteF ?_⟩
      refine ⟨_, rfl, B, _, rfl, .inr (X.bindsK _), rfl, rfl, false, congrArg V.bl w4, iteF ?_⟩
      refine ⟨_, rfl, by show 1 ≤ sizeLine; decide, fun r hr => ?_⟩
      have s2 : Same H (upd H r (.tup [.str w0.s])) := Same.upd hr
      have hr2 : upd H r (.tup [.str w0.s]) r = some (.tup [.str w0.s]) := upd_same
      generalize upd H r (.tup [.str w0.s]) = H2 at s2 hr2 ⊢
      refine ⟨_, rfl, ?_⟩
      refine ⟨1, rfl, _, _, rfl, SqT.of (s2 _ _ e), fun z => ?_, fun _ p3 hp3 => ?_⟩
      · exact absurd z.1 (cut1 _ _).1
      rw [(cut1 _ _).2]
      have s3 : Same H2 (upd H2 p3 (.tup vs0)) := Same.upd hp3
      refine ⟨p3, rfl, ⟨_, SqT.of upd_same⟩, fun D hD => ?_⟩
      have s03 := s2.trans s3
      refine map_tup (K := K) (chg (gOpen term) h d) upd_same (l.mono (.same s03)) hD (Nat.le_trans hok.1 (by decide)) (fun j v p H4 hp s4 pA Qe kq => ?_) (fun v => rfl) (fun H4 ys s4 hy hL => ?_)
      · exact ⟨_, rfl, _, rfl, _, rfl, _, _, _, p, d, term, rfl, pA, ⟨ns, ks, m', hok.2 p (List.mem_of_getElem? hp)⟩, hM.mono (.same (s03.trans s4)), hT.mono (.same (s03.trans s4)), kq⟩
      · refine ⟨D, ys, rfl, .inl ⟨SqL.of hy, fun u hu => ?_⟩⟩
        have s5 : Same H4 (upd H4 u (.tup ys)) := Same.upd hu
        have hll : ys.length ≤ 2 := by rw [hL.length, List.length_map]; exact hok.1
        refine ⟨r, u, [.str w0.s], ys, rfl, rfl, SqT.of (s5 _ _ (s4 _ _ (s3 _ _ hr2))), SqT.of upd_same, Nat.le_of_lt (small1000 (by show 1 + _ ≤ 1000; omega)), (fun z => nomatch z), fun _ z => ?_, fun _ _ x hx => ?_⟩
        · refine k _ _ ((s03.trans s4).trans s5) (.nod (vs := []) (s5 _ _ (s4 _ _ (s3 _ _ hr2))) ?_)
          rw [z] at hL
          exact hL.mono (.same s5)
        · have s6 : Same (upd H4 u (.tup ys)) (upd (upd H4 u (.tup ys)) x (.tup ([.str w0.s] ++ ys))) := Same.upd hx
          exact k _ _ (((s03.trans s4).trans s5).trans s6) (.nod upd_same ((hL.mono (.same s5)).mono (.same s6)))
theorem ok_opened (h : Nat) (F : Fun K "opened" "opened" (top 5) fo fd) (Fo : Fun K "_opened" "_opened" (top 6) fq fdq) (bo : Binds K fdq ["thing", "meant", "term"] []) (mo : mg "_opened" = some (.ref fq)) (Fp : Fun K "_deeper" "_deeper" (top 7) fc fdc) (bp : Binds K fdc ["meant"] []) (mp : mg "_deeper" = some (.ref fc)) (X : TxtP K mg B) :
    FnOk P w K mg base CX0 (3 + h) fo fd ["body", "term"] (spOpened Ts h) := by
  rw [show 3 + h = (2 + h) + 1 by omega]
  refine F.ok scOp (fun vs H Q E h => ?_) (fun cdv A0 outer s H vs Q E hr hh => ?_)
  · obtain ⟨v, tv, t, term, rfl, _⟩ := h
    rfl
  obtain ⟨v, tv, t, term, rfl, hA, hok, hB, hTb, k⟩ := hh
  refine ⟨_, pss_one (ps_ret (pe_call (ok_op Fo bo mo Fp bp mp X h) hr rfl mo Fo.kp bo .nil pass0 (pa_cons (pv 0) (pa_cons (pe_tup (pa_cons pe_str (pa_cons pe_int pa_nil))) (pa_cons (pv 1) pa_nil))))), ?_⟩
  refine ⟨_, rfl, by show 2 ≤ sizeLine; decide, fun p hp => ?_⟩
  have s1 : Same H (upd H p (.tup [.str "bound", .int 0])) := Same.upd hp
  refine ⟨_, rfl, _, _, _, t, 0, term, rfl, hA.mono (.same s1), hok, .bnd upd_same, hB.mono (.same s1), fun v' H' s2 a => ?_⟩
  exact k v' H' (extN_same (s1.trans s2)) (tabs_same hTb (s1.trans s2)) a
theorem ok_shut (h : Nat) (F : FunC K "shut" "shut" (top 8) fo fd c) (Fc : Fun K "_changed" "_changed" sChg fc fdc) (bc : Binds K fdc ["thing", "deep", "change"] []) (mc : mg "_changed" = some (.ref fc)) (X : TxtP K mg B) (TB : TabB base mg c p) (hT : (p, qSh) ∈ Ts) (hu : ∀ r ∈ Ts, r.1 = p → r.2 = qSh) :
    FnOk P w K mg base CX0 (3 + h) fo fd ["saying", "x", "kind"] (spShut Ts h) := by
  rw [show 3 + h = (2 + h) + 1 by omega]
  refine F.ok scSh (fun vs H Q E h => ?_) (fun A0 outer s H vs Q E hr hh => ?_)
  · obtain ⟨v, t, x, kk, rfl, _⟩ := h
    rfl
  obtain ⟨v, t, x, kk, rfl, hA, hok, gx, gk, hTb, k⟩ := hh
  refine ⟨_, pss_one (ps_ret (pe_lam3 (T := Ts) (js := [1, 2]) (fr := ["x", "kind"]) (spG := fun f c' ws => spChg h (gShut x kk) (fun H => ws = [.str x, .str kk]) c' qSh f) (k := 2 + h) (psg := ["thing", "deep", "change"]) ?_ hr rfl mc Fc.kp bc (pv 0) pe_int TB rfl hT hu (fun _ => rfl) (free_of fSh).1 (free_of fSh).2 rfl rfl)), ?_⟩
  · intro b f c' ws KI NI L
    obtain ⟨fdl, FL, bl, al⟩ := lfn_of (P := P) (w := w) (K := K) (mg := mg) (N := ["leaf", "deep", "x", "kind"]) (ps := ["leaf", "deep"]) (k := 0) (sp := spLf (gShut x kk) (fun H => ws = [.str x, .str kk]) c' qSh) (nscope_by nSh) L
      (fun vs H Q E h => by obtain ⟨_, _, _, rfl, _⟩ := h; rfl) (fun vs H Q E h => by obtain ⟨_, _, _, _, q, _⟩ := h; exact q) (fun pm ctv us hl => match us, hl with | [_, _], _ => rfl)
      (fun A outer s H vs Q E hr2 hh => by
        obtain ⟨v, t, d, rfl, _, rfl, hA, h1, hv, k⟩ := hh
        refine ⟨_, pe_ifExp (pt_cmpR (op_eqD (u64 hr2)) (pv 0) (pe_tup (pa_cons pe_str (pa_cons (pv 2) (pa_cons (pv 3) pa_nil)))) (nomark _)) (pe_tup (pa_cons pe_str (pa_cons (pv 1) pa_nil))) (pv 0), ?_⟩
        refine ⟨_, rfl, _, rfl, _, rfl, by show 3 ≤ sizeLine; decide, fun p hp => ?_⟩
        have s1 : Same H (upd H p (.tup [.str "name", .str x, .str kk])) := Same.upd hp
        have gl : gShut x kk t d = if isN x kk t = true then T.bnd d else t := by
          cases t <;> simp [gShut, isN]
        refine ⟨_, _, (hA.mono (.same s1)).dp h1, .tup (SqT.of upd_same) (.cons (.str _) (.cons (.str _) (.cons (.str _) .nil))), shaped_toD h1 (by decide), (shaped_leaf gx gk d).1, _, rfl, ?_⟩
        rw [show PyData.eqv (toD 1 t) (PyData.tuple [.str "name", .str x, .str kk]) = isN x kk t from eqv_nam h1]
        refine ite2 (fun e => ⟨_, rfl, by show 2 ≤ sizeLine; decide, fun u hu => k _ _ (s1.trans (Same.upd hu)) ?_⟩) (fun e => ⟨_, rfl, k _ _ s1 ?_⟩)
        · rw [gl, if_pos e]
          exact .bnd upd_same
        · rw [gl, if_neg e]
          exact hA.mono (.same s1))
    exact ok_chg Fc bc mc X FL bl al (fun H H' s e => e) h
  · refine ⟨_, rfl, hTb, [.str x, .str kk], rfl, fun f c' H3 e3 t3 hf hc' => ⟨v, t, 0, rfl, hc', rfl, hA.mono (extN_tup e3), hok, fun v' H' s a => k v' H' (e3.trans (extN_same s)) (tabs_same t3 s) a⟩⟩
theorem ok_put (h : Nat) (F : FunC K "put_in" "put_in" (top 9) fo fd c) (Fc : Fun K "_changed" "_changed" sChg fc fdc) (bc : Binds K fdc ["thing", "deep", "change"] []) (mc : mg "_changed" = some (.ref fc)) (X : TxtP K mg B) (TB : TabB base mg c p) (hT : (p, qPu) ∈ Ts) (hu : ∀ r ∈ Ts, r.1 = p → r.2 = qPu) :
    FnOk P w K mg base CX0 (3 + h) fo fd ["saying", "x", "kind", "term"] (spPut Ts h) := by
  rw [show 3 + h = (2 + h) + 1 by omega]
  refine F.ok scPu (fun vs H Q E h => ?_) (fun A0 outer s H vs Q E hr hh => ?_)
  · obtain ⟨v, tv, t, term, x, kk, rfl, _⟩ := h
    rfl
  obtain ⟨v, tv, t, term, x, kk, rfl, hA, hok, gx, gk, hB, hTb, k⟩ := hh
  refine ⟨_, pss_one (ps_ret (pe_lam3 (T := Ts) (js := [1, 2, 3]) (fr := ["x", "kind", "term"]) (spG := fun f c' ws => spChg h (gPut x kk term) (fun H => ∃ tv, ws = [.str x, .str kk, tv] ∧ At H tv term) c' qPu f) (k := 2 + h) (psg := ["thing", "deep", "change"]) ?_ hr rfl mc Fc.kp bc (pv 0) pe_int TB rfl hT hu (fun _ => rfl) (free_of fPu).1 (free_of fPu).2 rfl rfl)), ?_⟩
  · intro b f c' ws KI NI L
    obtain ⟨fdl, FL, bl, al⟩ := lfn_of (P := P) (w := w) (K := K) (mg := mg) (N := ["leaf", "deep", "x", "kind", "term"]) (ps := ["leaf", "deep"]) (k := 0) (sp := spLf (gPut x kk term) (fun H => ∃ tv, ws = [.str x, .str kk, tv] ∧ At H tv term) c' qPu) (nscope_by nPu) L
      (fun vs H Q E h => by obtain ⟨_, _, _, rfl, _⟩ := h; rfl) (fun vs H Q E h => by obtain ⟨_, _, _, _, q, _⟩ := h; exact q) (fun pm ctv us hl => match us, hl with | [_, _], _ => rfl)
      (fun A outer s H vs Q E hr2 hh => by
        obtain ⟨v, t, d, rfl, _, ⟨tv, rfl, hB⟩, hA, h1, hv, k⟩ := hh
        refine ⟨_, pe_ifExp (pt_cmpR (op_eqD (u64 hr2)) (pv 0) (pe_tup (pa_cons pe_str (pa_cons (pv 2) (pa_cons (pv 3) pa_nil)))) (nomark _)) (pv 4) (pv 0), ?_⟩
        refine ⟨_, rfl, _, rfl, _, rfl, by show 3 ≤ sizeLine; decide, fun p hp => ?_⟩
        have s1 : Same H (upd H p (.tup [.str "name", .str x, .str kk])) := Same.upd hp
        have gl : gPut x kk term t d = if isN x kk t = true then term else t := by
          cases t <;> simp [gPut, isN]
        refine ⟨_, _, (hA.mono (.same s1)).dp h1, .tup (SqT.of upd_same) (.cons (.str _) (.cons (.str _) (.cons (.str _) .nil))), shaped_toD h1 (by decide), (shaped_leaf gx gk d).1, _, rfl, ?_⟩
        rw [show PyData.eqv (toD 1 t) (PyData.tuple [.str "name", .str x, .str kk]) = isN x kk t from eqv_nam h1]
        refine ite2 (fun e => ⟨_, rfl, k _ _ s1 ?_⟩) (fun e => ⟨_, rfl, k _ _ s1 ?_⟩)
        · rw [gl, if_pos e]
          exact hB.mono (.same s1)
        · rw [gl, if_neg e]
          exact hA.mono (.same s1))
    exact ok_chg Fc bc mc X FL bl al (fun H H' s ⟨tv, e, q⟩ => ⟨tv, e, q.mono (.same s)⟩) h
  · refine ⟨_, rfl, hTb, [.str x, .str kk, tv], rfl, fun f c' H3 e3 t3 hf hc' => ⟨v, t, 0, rfl, hc', ⟨tv, rfl, hB.mono (extN_tup e3)⟩, hA.mono (extN_tup e3), hok, fun v' H' s a => k v' H' (e3.trans (extN_same s)) (tabs_same t3 s) a⟩⟩
end
end KD

/-! KD5: _law_named. -/
namespace KD
open PySem PySem.Spec PyProof.Rows L2 LamX NdefX LamF KM
/-- j, j - 1, .. lo -/
def dnL (lo j : Nat) : List V := (List.range (j + 1 - lo)).map fun i => V.int ((j - i : Nat) : Int)
theorem dnL_cons {lo j : Nat} (h : lo ≤ j + 1) : dnL lo (j + 1) = V.int ((j + 1 : Nat) : Int) :: dnL lo j := by
  unfold dnL
  rw [show j + 1 + 1 - lo = (j + 1 - lo) + 1 by omega, List.range_succ_eq_map, List.map_cons, List.map_map]
  refine List.cons_eq_cons.mpr ⟨rfl, List.map_congr_left fun i _ => ?_⟩
  show V.int ((j + 1 - (i + 1) : Nat) : Int) = _
  rw [show j + 1 - (i + 1) = j - i by omega]
theorem dnL_get {lo j n : Nat} (h : n + lo ≤ j) : (dnL lo j)[n]? = some (V.int ((j - n : Nat) : Int)) := by
  unfold dnL
  rw [List.getElem?_map, List.getElem?_range (by omega)] <;> rfl
theorem dnL_len (lo j : Nat) : (dnL lo j).length = j + 1 - lo := by
  unfold dnL
  rw [List.length_map, List.length_range]
theorem dnL_flat (lo j : Nat) : (dnL lo j).all flatV = true := by
  rw [List.all_eq_true]
  intro x hx
  obtain ⟨i, _, rfl⟩ := List.mem_map.mp hx
  rfl
theorem inW2 : inV (.str "name") [.str "all", .str "some"] = false ∧ inV (.str "made") [.str "all", .str "some"] = false ∧ inV (.str "var") [.str "all", .str "some"] = false ∧ (∀ w : Bw, inV (.str w.s) [.str "all", .str "some"] = true) ∧ (∀ w : Nw, inV (.str w.s) [.str "all", .str "some"] = false) ∧
    inV (.str "name") [.str "var", .str "name"] = true ∧ inV (.str "var") [.str "var", .str "name"] = true ∧ inV (.str "made") [.str "var", .str "name"] = false ∧ (∀ w : Bw, inV (.str w.s) [.str "var", .str "name"] = false) ∧ (∀ w : Nw, inV (.str w.s) [.str "var", .str "name"] = false) :=
  ⟨by decide +kernel, by decide +kernel, by decide +kernel, fun w => by cases w <;> decide +kernel, fun w => by cases w <;> decide +kernel, by decide +kernel, by decide +kernel, by decide +kernel, fun w => by cases w <;> decide +kernel, fun w => by cases w <;> decide +kernel⟩
theorem decS {x y : Str} (h : (x == y) = false) : decide (V.str x = V.str y) = false := decide_eq_false fun e => by
  injection e with e
  rw [e] at h
  simp at h
theorem litM : (("name" : Str) == ("made" : Str)) = false ∧ (("bound" : Str) == ("made" : Str)) = false ∧ (("var" : Str) == ("made" : Str)) = false ∧ (∀ w : Bw, (w.s == ("made" : Str)) = false) ∧ (∀ w : Nw, (w.s == ("made" : Str)) = false) :=
  ⟨by decide +kernel, by decide +kernel, by decide +kernel, fun w => by cases w <;> decide +kernel, fun w => by cases w <;> decide +kernel⟩
structure TxtL (mg : Str → Option Value) : Prop where
  tuple : mg "tuple" = none
  len : mg "len" = none
  rng : mg "range" = none
  isi : mg "isinstance" = none
  list : mg "list" = none
  max : mg "max" = none
  min : mg "min" = none
  sorted : mg "sorted" = none
  set : mg "set" = none
def spNamed (h : Nat) : Sp := fun vs H Q _ => ∃ (v : V) (t : T) (ar : Addr) (j : Nat), vs = [v, .ref ar] ∧ At H v t ∧ (∃ ns ks, ok ns ks h (j + 1) t) ∧ H ar = some (.lst (dnL 0 j)) ∧ j + h ≤ 100 ∧ ∀ v' H', Same H H' → At H' v' (nm h j t) → Q v' H'
abbrev sNm : Stmt := top 23
abbrev nNm : List Str := ["_law_thing", "_law_around", "_law_word_here", "_law_part"]
theorem scNm : FnScope nNm ["_law_thing", "_law_around"] (defScope sNm) := ⟨rfl, rfl, rfl, by decide +kernel, rfl, by decide +kernel, by decide +kernel⟩
section
variable {P : Program} {w : World} {K : PySem.W.Frag} {mg : Str → Option Value} {base : Heap} {f : Addr} {fd : FuncData}
theorem ok_named (F : Fun K "_law_named" "_law_named" sNm f fd) (b : Binds K fd ["_law_thing", "_law_around"] []) (m : mg "_law_named" = some (.ref f)) (X : TxtL mg) : ∀ h, FnOk P w K mg base CX0 (1 + h) f fd ["_law_thing", "_law_around"] (spNamed h)
  | 0 => by
    refine F.ok scNm (fun vs H Q E h => ?_) (fun cdv A0 outer s H vs Q E hr h => ?_)
    · obtain ⟨v, t, ar, j, rfl, _⟩ := h
      rfl
    · obtain ⟨_, _, _, _, _, _, ⟨_, _, z⟩, _⟩ := h
      exact z.elim
  | h + 1 => by
    have IH := ok_named F b m X h
    rw [show 1 + (h + 1) = (1 + h) + 1 by omega]
    refine F.ok scNm (fun vs H Q E h => ?_) (fun cdv A0 outer s H vs Q E hr hh => ?_)
    · obtain ⟨v, t, ar, j, rfl, _⟩ := h
      rfl
    obtain ⟨v, t, ar, j, rfl, hA, hok, har, hj, k⟩ := hh
    refine ⟨_, pss_cons (ps_set (i := 2) scNm.nd rfl (Or.inl rfl) (pe_ix ix_tup (pv 0) pe_int (fun _ _ => rfl)))
      (pss_cons (ps_if (pt_cmpR op_eq (pv 2) pe_str (nomark _)) (pss_one (ps_ret (pe_tup (pa_cons pe_str (pa_cons (pe_ix ix_list (pv 1) (pe_ix ix_tup (pv 0) pe_int (fun _ _ => rfl)) (fun _ _ => rfl)) pa_nil))))) pss_nil)
      (pss_cons (ps_if (pt_cmpR op_eq (pv 2) pe_str (nomark _)) (pss_one (ps_ret (pv 0))) pss_nil)
      (pss_cons (ps_if (pt_cmpR op_eq (pv 2) pe_str (nomark _)) (pss_one (ps_ret (pe_tup (pa_cons pe_str (pa_cons (pe_ix ix_tup (pv 0) pe_int (fun _ _ => rfl)) (pa_cons (pe_callTy call_tuple_of (by rfl) X.tuple boot_tuple (pa_cons
        (pe_lc (own := [("_law_part", 3)]) (g := gName 3) (tt := tYes) rfl scNm.nd (pi_tup (pe_ix ix_tup (pv 0) pe_int (fun _ _ => rfl))) (blkOk_by (N := nNm) (sc := defScope sNm) (by decide +kernel)) (fun _ _ _ _ _ => pg_name (i := 3) scNm.nd rfl (Or.inl rfl)) (fun _ _ _ _ _ => pts_nil)
          (fun _ _ _ _ _ => pe_call IH hr rfl m F.kp b .nil pass0 (pa_cons (pv 3) (pa_cons (pv 1) pa_nil)))) pa_nil)) pa_nil)))))) pss_nil)
      (pss_cons (ps_if (pt_cmpR op_in_seq (pv 2) (pe_lst (pa_cons pe_str (pa_cons pe_str pa_nil))) (by rfl)) (pss_one (ps_ret (pe_tup (pa_cons (pv 2) (pa_cons (pe_ix ix_tup (pv 0) pe_int (fun _ _ => rfl))
        (pa_cons (pe_callB call_len_seq (by rfl) X.len PySem.boot_len (pa_cons (pv 1) pa_nil)) (pa_cons (pe_call IH hr rfl m F.kp b .nil pass0
        (pa_cons (pe_ix ix_tup (pv 0) pe_int (fun _ _ => rfl)) (pa_cons (pe_op op_cat (pe_lst (pa_cons (pe_callB call_len_seq (by rfl) X.len PySem.boot_len (pa_cons (pv 1) pa_nil)) pa_nil)) (pv 1)) pa_nil))) pa_nil))))))) pss_nil)
      (pss_one (ps_ret (pe_op op_catA (pe_tup (pa_cons (pv 2) pa_nil)) (pe_callTy call_tuple_of (by rfl) X.tuple boot_tuple (pa_cons
        (pe_lc (own := [("_law_part", 3)]) (g := gName 3) (tt := tYes) rfl scNm.nd (pi_tup (pe_slice sl_tupA (pv 0) (po_some pe_int) po_none)) (blkOk_by (N := nNm) (sc := defScope sNm) (by decide +kernel)) (fun _ _ _ _ _ => pg_name (i := 3) scNm.nd rfl (Or.inl rfl)) (fun _ _ _ _ _ => pts_nil)
          (fun _ _ _ _ _ => pe_call IH hr rfl m F.kp b .nil pass0 (pa_cons (pv 3) (pa_cons (pv 1) pa_nil)))) pa_nil))))))))), ?_⟩
    obtain ⟨ns, ks, hok⟩ := hok
    have two : (2 : Nat) ≤ sizeLine := by decide
    cases hA with
    | nam e =>
      refine ⟨_, rfl, _, _, _, _, rfl, rfl, SqT.of e, rfl, ?_⟩
      refine ⟨_, rfl, rfl, false, congrArg V.bl (decS lit_ne.2.2.2.1), iteF ?_⟩
      refine ⟨_, rfl, rfl, true, congrArg V.bl (decide_eq_true rfl), iteT ?_⟩
      exact ⟨_, rfl, k _ _ (Same.refl H) (.nam e)⟩
    | bnd e =>
      rename_i a0 n0
      have hn : n0 < j + 1 := hok
      refine ⟨_, rfl, _, _, _, _, rfl, rfl, SqT.of e, rfl, ?_⟩
      refine ⟨_, rfl, rfl, true, congrArg V.bl (decide_eq_true rfl), iteT ?_⟩
      refine ⟨_, rfl, _, rfl, _, _, _, _, rfl, rfl, SqT.of e, rfl, _, _, _, _, rfl, rfl, SqL.of har, atI_nat (dnL_get (by omega)), two, fun p hp => ?_⟩
      exact k _ _ (Same.upd hp) (.var upd_same)
    | var e => exact hok.elim
    | mad e e2 l =>
      rename_i a0 b0 f0 vs0 ps0
      refine ⟨_, rfl, _, _, _, _, rfl, rfl, SqT.of e, rfl, ?_⟩
      refine ⟨_, rfl, rfl, false, congrArg V.bl (decS lit_ne.2.2.2.2.2.1), iteF ?_⟩
      refine ⟨_, rfl, rfl, false, congrArg V.bl (decS lit_ne.2.2.1), iteF ?_⟩
      refine ⟨_, rfl, rfl, true, congrArg V.bl (decide_eq_true rfl), iteT ?_⟩
      refine ⟨_, rfl, _, _, _, _, rfl, rfl, SqT.of e, rfl, ?_⟩
      refine ⟨_, rfl, _, _, _, _, rfl, rfl, SqT.of e, rfl, _, rfl, ⟨_, SqT.of e2⟩, fun D hD => ?_⟩
      refine map_tup (K := K) (nm h j) e2 l hD hok.1.1 (fun i v p H2 hp s2 pA Qe kq => ?_) (fun v => rfl) (fun H2 ys s2 hy hL => ?_)
      · exact ⟨_, rfl, _, rfl, _, p, ar, j, rfl, pA, ⟨ns, ks, hok.2 p (List.mem_of_getElem? hp)⟩, s2 _ _ har, by omega, kq⟩
      · refine ⟨D, ys, rfl, .inl ⟨SqL.of hy, fun r hr => ⟨by show 3 ≤ sizeLine; decide, fun u hu => ?_⟩⟩⟩
        have s3 : Same H2 (upd H2 r (.tup ys)) := Same.upd hr
        have s4 : Same (upd H2 r (.tup ys)) (upd (upd H2 r (.tup ys)) u (.tup [V.str "made", V.str f0, V.ref r])) := Same.upd hu
        exact k _ _ ((s2.trans s3).trans s4) (.mad upd_same (s4 _ _ upd_same) ((hL.mono (.same s3)).mono (.same s4)))
    | bin e l =>
      rename_i a0 w0 k0 v0 t0
      obtain ⟨w1, w2, w3⟩ := bw_ne w0
      refine ⟨_, rfl, _, _, _, _, rfl, rfl, SqT.of e, rfl, ?_⟩
      refine ⟨_, rfl, rfl, false, congrArg V.bl (decS w2), iteF ?_⟩
      refine ⟨_, rfl, rfl, false, congrArg V.bl (decS w1), iteF ?_⟩
      refine ⟨_, rfl, rfl, false, congrArg V.bl (decS (litM.2.2.2.1 w0)), iteF ?_⟩
      refine ⟨_, rfl, two, fun p hp => ⟨p, _, rfl, .inl (SqL.of upd_same), rfl, rfl, true, congrArg V.bl (inW2.2.2.2.1 w0), iteT ?_⟩⟩
      have s1 : Same H (upd H p (.lst [.str "all", .str "some"])) := Same.upd hp
      generalize upd H p (.lst [.str "all", .str "some"]) = H1 at s1 ⊢
      refine ⟨_, rfl, _, rfl, _, _, _, _, rfl, rfl, SqT.of (s1 _ _ e), rfl, _, rfl, _, _, rfl, .inl (SqL.of (s1 _ _ har)), ?_⟩
      refine ⟨_, rfl, _, _, _, _, rfl, rfl, SqT.of (s1 _ _ e), rfl, _, rfl, _, _, rfl, .inl (SqL.of (s1 _ _ har)), by show 1 ≤ sizeLine; decide, fun r hr => ?_⟩
      rw [dnL_len]
      have s2 : Same H1 (upd H1 r (.lst [V.int ((j + 1 - 0 : Nat) : Int)])) := Same.upd hr
      refine ⟨_, rfl, _, _, _, _, rfl, rfl, upd_same, s2 _ _ (s1 _ _ har), Nat.le_of_lt (small1000 (by rw [dnL_len]; show 1 + _ ≤ 1000; omega)), fun u hu => ?_⟩
      have s3 := (s1.trans s2).trans (Same.upd (o := .lst ([V.int ((j + 1 - 0 : Nat) : Int)] ++ dnL 0 j)) hu)
      refine ⟨_, t0, u, j + 1, rfl, l.mono (.same s3), ⟨ns, ks, hok.2⟩, ?_, by omega, fun v' H' s4 a => ⟨by show 4 ≤ sizeLine; decide, fun x hx => ?_⟩⟩
      · rw [upd_same, dnL_cons (Nat.zero_le _)] <;> rfl
      · have s5 : Same H' (upd H' x (.tup [V.str w0.s, V.str k0, V.int ((j + 1 - 0 : Nat) : Int), v'])) := Same.upd hx
        exact k _ _ ((s3.trans s4).trans s5) (.bnn (n := j + 1) upd_same (a.mono (.same s5)))
    | bnn e l => exact hok.elim
    | nod e l =>
      rename_i a0 w0 vs0 ps0
      obtain ⟨w1, w2, w3⟩ := nw_ne w0
      refine ⟨_, rfl, _, _, _, _, rfl, rfl, SqT.of e, atI_nat (j := 0) rfl, ?_⟩
      refine ⟨_, rfl, rfl, false, congrArg V.bl (decS w2), iteF ?_⟩
      refine ⟨_, rfl, rfl, false, congrArg V.bl (decS w1), iteF ?_⟩
      refine ⟨_, rfl, rfl, false, congrArg V.bl (decS (litM.2.2.2.2 w0)), iteF ?_⟩
      refine ⟨_, rfl, two, fun p hp => ⟨p, _, rfl, .inl (SqL.of upd_same), rfl, rfl, false, congrArg V.bl (inW2.2.2.2.2.1 w0), iteF ?_⟩⟩
      have s1 : Same H (upd H p (.lst [.str "all", .str "some"])) := Same.upd hp
      generalize upd H p (.lst [.str "all", .str "some"]) = H1 at s1 ⊢
      refine ⟨_, rfl, by show 1 ≤ sizeLine; decide, fun r hr => ?_⟩
      have s2 : Same H1 (upd H1 r (.tup [.str w0.s])) := Same.upd hr
      have hr2 : upd H1 r (.tup [.str w0.s]) r = some (.tup [.str w0.s]) := upd_same
      generalize upd H1 r (.tup [.str w0.s]) = H2 at s2 hr2 ⊢
      have s02 := s1.trans s2
      refine ⟨_, rfl, 1, rfl, _, _, rfl, SqT.of (s02 _ _ e), fun z => absurd z.1 (cut1 _ _).1, fun _ p3 hp3 => ?_⟩
      rw [(cut1 _ _).2]
      have s3 : Same H2 (upd H2 p3 (.tup vs0)) := Same.upd hp3
      refine ⟨p3, rfl, ⟨_, SqT.of upd_same⟩, fun D hD => ?_⟩
      have s03 := s02.trans s3
      refine map_tup (K := K) (nm h j) upd_same (l.mono (.same s03)) hD (Nat.le_trans hok.1 (by decide)) (fun i v p H4 hp s4 pA Qe kq => ?_) (fun v => rfl) (fun H4 ys s4 hy hL => ?_)
      · exact ⟨_, rfl, _, rfl, _, p, ar, j, rfl, pA, ⟨ns, ks, hok.2 p (List.mem_of_getElem? hp)⟩, s4 _ _ (s03 _ _ har), by omega, kq⟩
      · refine ⟨D, ys, rfl, .inl ⟨SqL.of hy, fun u hu => ?_⟩⟩
        have s5 : Same H4 (upd H4 u (.tup ys)) := Same.upd hu
        have hll : ys.length ≤ 2 := by rw [hL.length, List.length_map]; exact hok.1
        refine ⟨r, u, [.str w0.s], ys, rfl, rfl, SqT.of (s5 _ _ (s4 _ _ (s3 _ _ hr2))), SqT.of upd_same, Nat.le_of_lt (small1000 (by show 1 + _ ≤ 1000; omega)), (fun z => nomatch z), fun _ z => ?_, fun _ _ x hx => ?_⟩
        · refine k _ _ ((s03.trans s4).trans s5) (.nod (vs := []) (s5 _ _ (s4 _ _ (s3 _ _ hr2))) ?_)
          rw [z] at hL
          exact hL.mono (.same s5)
        · have s6 : Same (upd H4 u (.tup ys)) (upd (upd H4 u (.tup ys)) x (.tup ([.str w0.s] ++ ys))) := Same.upd hx
          exact k _ _ (((s03.trans s4).trans s5).trans s6) (.nod upd_same ((hL.mono (.same s5)).mono (.same s6)))
end
end KD

/-! KD6: _law_exchanged. -/
namespace KD
open PySem PySem.Spec PyProof.Rows L2 LamX NdefX LamF KM
/-- what is exchanged: a name, or var 0 -/
def Old (o : T) (p : T → Bool) : Prop := (∃ x k, o = .nam x k ∧ G x ∧ G k ∧ p = isN x k) ∨ (o = .var 0 ∧ p = isV 0)
theorem Old.hi {o : T} {p : T → Bool} (h : Old o p) : hi 1 o := by
  rcases h with ⟨x, k, rfl, g1, g2, _⟩ | ⟨rfl, _⟩
  · exact ⟨g1, g2⟩
  · trivial
theorem Old.eqv {o : T} {p : T → Bool} (h : Old o p) {n : Nat} {t : T} (z : KD.hi (n + 1) t) : PyData.eqv (toD (n + 1) t) (toD 1 o) = p t := by
  rcases h with ⟨x, k, rfl, g1, g2, rfl⟩ | ⟨rfl, rfl⟩
  · exact eqv_nam z
  · exact eqv_var z
def exB (p : T → Bool) (new : T) (h : Nat) : T → T
  | .mad f ps => .mad f (ps.map (ex p new h))
  | .bnn w k n a => .bnn w k n (ex p new h a)
  | .nod w ps => .nod w (ps.map (ex p new h))
  | t => t
theorem exB_eq (p : T → Bool) (new : T) (h : Nat) (t : T) : ex p new (h + 1) t = if p t = true then new else exB p new h t := by cases t <;> rfl
def spEx (h : Nat) : Sp := fun vs H Q _ => ∃ (v vo vn : V) (t o new : T) (p : T → Bool) (lo j : Nat), vs = [v, vo, vn] ∧ At H v t ∧ okN h lo j t ∧ At H vo o ∧ Old o p ∧ At H vn new ∧ h ≤ 30 ∧ ∀ v' H', Same H H' → At H' v' (ex p new h t) → Q v' H'
abbrev sEx : Stmt := top 24
abbrev nEx : List Str := ["_law_thing", "_law_old", "_law_new", "_law_part"]
theorem scEx : FnScope nEx ["_law_thing", "_law_old", "_law_new"] (defScope sEx) := ⟨rfl, rfl, rfl, by decide +kernel, rfl, by decide +kernel, by decide +kernel⟩
section
variable {P : Program} {w : World} {K : PySem.W.Frag} {mg : Str → Option Value} {base : Heap} {f : Addr} {fd : FuncData}
theorem ok_ex (F : Fun K "_law_exchanged" "_law_exchanged" sEx f fd) (b : Binds K fd ["_law_thing", "_law_old", "_law_new"] []) (m : mg "_law_exchanged" = some (.ref f)) (X : TxtL mg) : ∀ h, FnOk P w K mg base CX0 (1 + h) f fd ["_law_thing", "_law_old", "_law_new"] (spEx h)
  | 0 => by
    refine F.ok scEx (fun vs H Q E h => ?_) (fun cdv A0 outer s H vs Q E hr h => ?_)
    · obtain ⟨v, vo, vn, t, o, new, p, lo, j, rfl, _⟩ := h
      rfl
    · obtain ⟨_, _, _, _, _, _, _, _, _, _, _, z, _⟩ := h
      exact z.elim
  | h + 1 => by
    have IH := ok_ex F b m X h
    rw [show 1 + (h + 1) = (1 + h) + 1 by omega]
    refine F.ok scEx (fun vs H Q E h => ?_) (fun cdv A0 outer s H vs Q E hr hh => ?_)
    · obtain ⟨v, vo, vn, t, o, new, p, lo, j, rfl, _⟩ := h
      rfl
    obtain ⟨v, vo, vn, t, o, new, p, lo, j, rfl, hA, hok, hO, old, hN, hh, k⟩ := hh
    refine ⟨_, pss_cons (ps_if (pt_cmpR (op_eqD (u64 hr)) (pv 0) (pv 1) (nomark _)) (pss_one (ps_ret (pv 2))) pss_nil)
      (pss_cons (ps_if (pt_cmpR op_in_seq (pe_ix ix_tup (pv 0) pe_int (fun _ _ => rfl)) (pe_lst (pa_cons pe_str (pa_cons pe_str pa_nil))) (by rfl)) (pss_one (ps_ret (pv 0))) pss_nil)
      (pss_cons (ps_if (pt_cmpR op_eq (pe_ix ix_tup (pv 0) pe_int (fun _ _ => rfl)) pe_str (nomark _)) (pss_one (ps_ret (pe_tup (pa_cons pe_str (pa_cons (pe_ix ix_tup (pv 0) pe_int (fun _ _ => rfl)) (pa_cons (pe_callTy call_tuple_of (by rfl) X.tuple boot_tuple (pa_cons
        (pe_lc (own := [("_law_part", 3)]) (g := gName 3) (tt := tYes) rfl scEx.nd (pi_tup (pe_ix ix_tup (pv 0) pe_int (fun _ _ => rfl))) (blkOk_by (N := nEx) (sc := defScope sEx) (by decide +kernel)) (fun _ _ _ _ _ => pg_name (i := 3) scEx.nd rfl (Or.inl rfl)) (fun _ _ _ _ _ => pts_nil)
          (fun _ _ _ _ _ => pe_call IH hr rfl m F.kp b .nil pass0 (pa_cons (pv 3) (pa_cons (pv 1) (pa_cons (pv 2) pa_nil))))) pa_nil)) pa_nil)))))) pss_nil)
      (pss_cons (ps_if (pt_cmpR op_in_seq (pe_ix ix_tup (pv 0) pe_int (fun _ _ => rfl)) (pe_lst (pa_cons pe_str (pa_cons pe_str pa_nil))) (by rfl)) (pss_one (ps_ret (pe_tup (pa_cons (pe_ix ix_tup (pv 0) pe_int (fun _ _ => rfl)) (pa_cons (pe_ix ix_tup (pv 0) pe_int (fun _ _ => rfl))
        (pa_cons (pe_ix ix_tup (pv 0) pe_int (fun _ _ => rfl)) (pa_cons (pe_call IH hr rfl m F.kp b .nil pass0
        (pa_cons (pe_ix ix_tup (pv 0) pe_int (fun _ _ => rfl)) (pa_cons (pv 1) (pa_cons (pv 2) pa_nil)))) pa_nil))))))) pss_nil)
      (pss_one (ps_ret (pe_op op_catA (pe_tup (pa_cons (pe_ix ix_tup (pv 0) pe_int (fun _ _ => rfl)) pa_nil)) (pe_callTy call_tuple_of (by rfl) X.tuple boot_tuple (pa_cons
        (pe_lc (own := [("_law_part", 3)]) (g := gName 3) (tt := tYes) rfl scEx.nd (pi_tup (pe_slice sl_tupA (pv 0) (po_some pe_int) po_none)) (blkOk_by (N := nEx) (sc := defScope sEx) (by decide +kernel)) (fun _ _ _ _ _ => pg_name (i := 3) scEx.nd rfl (Or.inl rfl)) (fun _ _ _ _ _ => pts_nil)
          (fun _ _ _ _ _ => pe_call IH hr rfl m F.kp b .nil pass0 (pa_cons (pv 3) (pa_cons (pv 1) (pa_cons (pv 2) pa_nil))))) pa_nil)))))))), ?_⟩
    have two : (2 : Nat) ≤ sizeLine := by decide
    have hz := hi_okN hok
    refine ⟨_, rfl, _, rfl, _, _, hA.dp hz, hO.dp old.hi, shaped_toD hz (by omega), shaped_toD old.hi (by decide), _, rfl, ?_⟩
    rw [old.eqv hz]
    have exE := exB_eq p new h t
    refine ite2 (fun e => ⟨_, rfl, k _ _ (Same.refl H) (by rw [exE, if_pos e]; exact hN)⟩) (fun en => ?_)
    rw [if_neg en] at exE
    rw [exE] at k
    clear exE en
    cases hA with
    | nam e =>
      refine ⟨_, rfl, _, _, _, _, rfl, rfl, SqT.of e, rfl, two, fun z hp => ⟨z, _, rfl, .inl (SqL.of upd_same), rfl, rfl, true, congrArg V.bl inW2.2.2.2.2.2.1, iteT ?_⟩⟩
      have s1 : Same H (upd H z (.lst [.str "var", .str "name"])) := Same.upd hp
      exact ⟨_, rfl, k _ _ s1 (.nam (s1 _ _ e))⟩
    | bnd e => exact hok.elim
    | var e =>
      refine ⟨_, rfl, _, _, _, _, rfl, rfl, SqT.of e, rfl, two, fun z hp => ⟨z, _, rfl, .inl (SqL.of upd_same), rfl, rfl, true, congrArg V.bl inW2.2.2.2.2.2.2.1, iteT ?_⟩⟩
      have s1 : Same H (upd H z (.lst [.str "var", .str "name"])) := Same.upd hp
      exact ⟨_, rfl, k _ _ s1 (.var (s1 _ _ e))⟩
    | mad e e2 l =>
      rename_i a0 b0 f0 vs0 ps0
      refine ⟨_, rfl, _, _, _, _, rfl, rfl, SqT.of e, rfl, two, fun z hp => ⟨z, _, rfl, .inl (SqL.of upd_same), rfl, rfl, false, congrArg V.bl inW2.2.2.2.2.2.2.2.1, iteF ?_⟩⟩
      have s1 : Same H (upd H z (.lst [.str "var", .str "name"])) := Same.upd hp
      generalize upd H z (.lst [.str "var", .str "name"]) = H1 at s1 ⊢
      refine ⟨_, rfl, _, _, _, _, rfl, rfl, SqT.of (s1 _ _ e), rfl, rfl, true, congrArg V.bl (decide_eq_true rfl), iteT ?_⟩
      refine ⟨_, rfl, _, _, _, _, rfl, rfl, SqT.of (s1 _ _ e), rfl, ?_⟩
      refine ⟨_, rfl, _, _, _, _, rfl, rfl, SqT.of (s1 _ _ e), rfl, _, rfl, ⟨_, SqT.of (s1 _ _ e2)⟩, fun D hD => ?_⟩
      refine map_tup (K := K) (ex p new h) (s1 _ _ e2) (l.mono (.same s1)) hD hok.1.1 (fun i v q H2 hp s2 pA Qe kq => ?_) (fun v => rfl) (fun H2 ys s2 hy hL => ?_)
      · have s12 := s1.trans s2
        exact ⟨_, rfl, _, rfl, _, rfl, _, _, _, q, o, new, p, lo, j, rfl, pA, hok.2 q (List.mem_of_getElem? hp), hO.mono (.same s12), old, hN.mono (.same s12), by omega, kq⟩
      · refine ⟨D, ys, rfl, .inl ⟨SqL.of hy, fun r hr => ⟨by show 3 ≤ sizeLine; decide, fun u hu => ?_⟩⟩⟩
        have s3 : Same H2 (upd H2 r (.tup ys)) := Same.upd hr
        have s4 : Same (upd H2 r (.tup ys)) (upd (upd H2 r (.tup ys)) u (.tup [V.str "made", V.str f0, V.ref r])) := Same.upd hu
        exact k _ _ (((s1.trans s2).trans s3).trans s4) (.mad upd_same (s4 _ _ upd_same) ((hL.mono (.same s3)).mono (.same s4)))
    | bin e l => exact hok.elim
    | bnn e l =>
      rename_i a0 w0 k0 n0 v0 t0
      refine ⟨_, rfl, _, _, _, _, rfl, rfl, SqT.of e, rfl, two, fun z hp => ⟨z, _, rfl, .inl (SqL.of upd_same), rfl, rfl, false, congrArg V.bl (inW2.2.2.2.2.2.2.2.2.1 w0), iteF ?_⟩⟩
      have s1 : Same H (upd H z (.lst [.str "var", .str "name"])) := Same.upd hp
      generalize upd H z (.lst [.str "var", .str "name"]) = H1 at s1 ⊢
      refine ⟨_, rfl, _, _, _, _, rfl, rfl, SqT.of (s1 _ _ e), rfl, rfl, false, congrArg V.bl (decS (litM.2.2.2.1 w0)), iteF ?_⟩
      refine ⟨_, rfl, _, _, _, _, rfl, rfl, SqT.of (s1 _ _ e), rfl, two, fun z hp => ⟨z, _, rfl, .inl (SqL.of upd_same), rfl, rfl, true, congrArg V.bl (inW2.2.2.2.1 w0), iteT ?_⟩⟩
      have s2 : Same H1 (upd H1 z (.lst [.str "all", .str "some"])) := Same.upd hp
      generalize upd H1 z (.lst [.str "all", .str "some"]) = H2 at s2 ⊢
      have s12 := s1.trans s2
      refine ⟨_, rfl, _, _, _, _, rfl, rfl, SqT.of (s12 _ _ e), rfl, _, rfl, _, _, _, _, rfl, rfl, SqT.of (s12 _ _ e), rfl, _, rfl, _, _, _, _, rfl, rfl, SqT.of (s12 _ _ e), rfl, ?_⟩
      refine ⟨_, rfl, _, _, _, _, rfl, rfl, SqT.of (s12 _ _ e), rfl, _, rfl, _, rfl, ?_⟩
      refine ⟨_, _, _, t0, o, new, _, lo, n0, rfl, l.mono (.same s12), hok.2, hO.mono (.same s12), old, hN.mono (.same s12), by omega, fun v' H' s3 a => ⟨by show 4 ≤ sizeLine; decide, fun x hx => ?_⟩⟩
      have s4 : Same H' (upd H' x (.tup [V.str w0.s, V.str k0, V.int n0, v'])) := Same.upd hx
      exact k _ _ ((s12.trans s3).trans s4) (.bnn upd_same (a.mono (.same s4)))
    | nod e l =>
      rename_i a0 w0 vs0 ps0
      refine ⟨_, rfl, _, _, _, _, rfl, rfl, SqT.of e, atI_nat (j := 0) rfl, two, fun z hp => ⟨z, _, rfl, .inl (SqL.of upd_same), rfl, rfl, false, congrArg V.bl (inW2.2.2.2.2.2.2.2.2.2 w0), iteF ?_⟩⟩
      have s1 : Same H (upd H z (.lst [.str "var", .str "name"])) := Same.upd hp
      generalize upd H z (.lst [.str "var", .str "name"]) = H1 at s1 ⊢
      refine ⟨_, rfl, _, _, _, _, rfl, rfl, SqT.of (s1 _ _ e), atI_nat (j := 0) rfl, rfl, false, congrArg V.bl (decS (litM.2.2.2.2 w0)), iteF ?_⟩
      refine ⟨_, rfl, _, _, _, _, rfl, rfl, SqT.of (s1 _ _ e), atI_nat (j := 0) rfl, two, fun z hp => ⟨z, _, rfl, .inl (SqL.of upd_same), rfl, rfl, false, congrArg V.bl (inW2.2.2.2.2.1 w0), iteF ?_⟩⟩
      have s2 : Same H1 (upd H1 z (.lst [.str "all", .str "some"])) := Same.upd hp
      generalize upd H1 z (.lst [.str "all", .str "some"]) = H2 at s2 ⊢
      have s12 := s1.trans s2
      refine ⟨_, rfl, _, _, _, _, rfl, rfl, SqT.of (s12 _ _ e), atI_nat (j := 0) rfl, by show 1 ≤ sizeLine; decide, fun r hr => ?_⟩
      have s2' : Same H2 (upd H2 r (.tup [.str w0.s])) := Same.upd hr
      have hr2 : upd H2 r (.tup [.str w0.s]) r = some (.tup [.str w0.s]) := upd_same
      generalize upd H2 r (.tup [.str w0.s]) = H3 at s2' hr2 ⊢
      have s02 := s12.trans s2'
      refine ⟨_, rfl, 1, rfl, _, _, rfl, SqT.of (s02 _ _ e), fun z => absurd z.1 (cut1 _ _).1, fun _ p3 hp3 => ?_⟩
      rw [(cut1 _ _).2]
      have s3 : Same H3 (upd H3 p3 (.tup vs0)) := Same.upd hp3
      refine ⟨p3, rfl, ⟨_, SqT.of upd_same⟩, fun D hD => ?_⟩
      have s03 := s02.trans s3
      refine map_tup (K := K) (ex p new h) upd_same (l.mono (.same s03)) hD (Nat.le_trans hok.1 (by decide)) (fun i v q H4 hp s4 pA Qe kq => ?_) (fun v => rfl) (fun H4 ys s4 hy hL => ?_)
      · have s34 := s03.trans s4
        exact ⟨_, rfl, _, rfl, _, rfl, _, _, _, q, o, new, p, lo, j, rfl, pA, hok.2 q (List.mem_of_getElem? hp), hO.mono (.same s34), old, hN.mono (.same s34), by omega, kq⟩
      · refine ⟨D, ys, rfl, .inl ⟨SqL.of hy, fun u hu => ?_⟩⟩
        have s5 : Same H4 (upd H4 u (.tup ys)) := Same.upd hu
        have hll : ys.length ≤ 2 := by rw [hL.length, List.length_map]; exact hok.1
        refine ⟨r, u, [.str w0.s], ys, rfl, rfl, SqT.of (s5 _ _ (s4 _ _ (s3 _ _ hr2))), SqT.of upd_same, Nat.le_of_lt (small1000 (by show 1 + _ ≤ 1000; omega)), (fun z => nomatch z), fun _ z => ?_, fun _ _ x hx => ?_⟩
        · refine k _ _ ((s03.trans s4).trans s5) (.nod (vs := []) (s5 _ _ (s4 _ _ (s3 _ _ hr2))) ?_)
          rw [z] at hL
          exact hL.mono (.same s5)
        · have s6 : Same (upd H4 u (.tup ys)) (upd (upd H4 u (.tup ys)) x (.tup ([.str w0.s] ++ ys))) := Same.upd hx
          exact k _ _ (((s03.trans s4).trans s5).trans s6) (.nod upd_same ((hL.mono (.same s5)).mono (.same s6)))
end
end KD

/-! KD7: _law_unnamed. -/
namespace KD
open PySem PySem.Spec PyProof.Rows L2 LamX NdefX LamF KM
def spUn (h : Nat) : Sp := fun vs H Q _ => ∃ (v : V) (t : T) (ar : Addr) (lo j : Nat), vs = [v, .ref ar] ∧ At H v t ∧ okN h lo j t ∧ H ar = some (.lst (dnL lo j)) ∧ lo ≤ 1 ∧ j + h ≤ 100 ∧ ∀ v' H', Same H H' → At H' v' (un h j t) → Q v' H'
abbrev sUn : Stmt := top 25
abbrev nUn : List Str := ["_law_thing", "_law_around", "_law_word_here", "_law_part"]
theorem scUn : FnScope nUn ["_law_thing", "_law_around"] (defScope sUn) := ⟨rfl, rfl, rfl, by decide +kernel, rfl, by decide +kernel, by decide +kernel⟩
section
variable {P : Program} {w : World} {K : PySem.W.Frag} {mg : Str → Option Value} {base : Heap} {f : Addr} {fd : FuncData}
theorem ok_un (F : Fun K "_law_unnamed" "_law_unnamed" sUn f fd) (b : Binds K fd ["_law_thing", "_law_around"] []) (m : mg "_law_unnamed" = some (.ref f)) (X : TxtL mg) : ∀ h, FnOk P w K mg base CX0 (1 + h) f fd ["_law_thing", "_law_around"] (spUn h)
  | 0 => by
    refine F.ok scUn (fun vs H Q E h => ?_) (fun cdv A0 outer s H vs Q E hr h => ?_)
    · obtain ⟨v, t, ar, lo, j, rfl, _⟩ := h
      rfl
    · obtain ⟨_, _, _, _, _, _, _, z, _⟩ := h
      exact z.elim
  | h + 1 => by
    have IH := ok_un F b m X h
    rw [show 1 + (h + 1) = (1 + h) + 1 by omega]
    refine F.ok scUn (fun vs H Q E h => ?_) (fun cdv A0 outer s H vs Q E hr hh => ?_)
    · obtain ⟨v, t, ar, lo, j, rfl, _⟩ := h
      rfl
    obtain ⟨v, t, ar, lo, j, rfl, hA, hok, har, hlo, hj, k⟩ := hh
    refine ⟨_, pss_cons (ps_set (i := 2) scUn.nd rfl (Or.inl rfl) (pe_ix ix_tup (pv 0) pe_int (fun _ _ => rfl)))
      (pss_cons (ps_if (pt_cmpR op_eq (pv 2) pe_str (nomark _)) (pss_one (ps_ret (pe_tup (pa_cons pe_str (pa_cons (pe_bm PySem.F.plainAttrs_list PySem.F.slot_list_index PySem.F.type_list_index mt_index (pv 1) (pa_cons (pe_ix ix_tup (pv 0) pe_int (fun _ _ => rfl)) pa_nil)) pa_nil))))) pss_nil)
      (pss_cons (ps_if (pt_cmpR op_eq (pv 2) pe_str (nomark _)) (pss_one (ps_ret (pv 0))) pss_nil)
      (pss_cons (ps_if (pt_cmpR op_eq (pv 2) pe_str (nomark _)) (pss_one (ps_ret (pe_tup (pa_cons pe_str (pa_cons (pe_ix ix_tup (pv 0) pe_int (fun _ _ => rfl)) (pa_cons (pe_callTy call_tuple_of (by rfl) X.tuple boot_tuple (pa_cons
        (pe_lc (own := [("_law_part", 3)]) (g := gName 3) (tt := tYes) rfl scUn.nd (pi_tup (pe_ix ix_tup (pv 0) pe_int (fun _ _ => rfl))) (blkOk_by (N := nUn) (sc := defScope sUn) (by decide +kernel)) (fun _ _ _ _ _ => pg_name (i := 3) scUn.nd rfl (Or.inl rfl)) (fun _ _ _ _ _ => pts_nil)
          (fun _ _ _ _ _ => pe_call IH hr rfl m F.kp b .nil pass0 (pa_cons (pv 3) (pa_cons (pv 1) pa_nil)))) pa_nil)) pa_nil)))))) pss_nil)
      (pss_cons (ps_if (pt_cmpR op_in_seq (pv 2) (pe_lst (pa_cons pe_str (pa_cons pe_str pa_nil))) (by rfl)) (pss_one (ps_ret (pe_tup (pa_cons (pv 2) (pa_cons (pe_ix ix_tup (pv 0) pe_int (fun _ _ => rfl))
        (pa_cons (pe_call IH hr rfl m F.kp b .nil pass0
        (pa_cons (pe_ix ix_tup (pv 0) pe_int (fun _ _ => rfl)) (pa_cons (pe_op op_cat (pe_lst (pa_cons (pe_ix ix_tup (pv 0) pe_int (fun _ _ => rfl)) pa_nil)) (pv 1)) pa_nil))) pa_nil)))))) pss_nil)
      (pss_one (ps_ret (pe_op op_catA (pe_tup (pa_cons (pv 2) pa_nil)) (pe_callTy call_tuple_of (by rfl) X.tuple boot_tuple (pa_cons
        (pe_lc (own := [("_law_part", 3)]) (g := gName 3) (tt := tYes) rfl scUn.nd (pi_tup (pe_slice sl_tupA (pv 0) (po_some pe_int) po_none)) (blkOk_by (N := nUn) (sc := defScope sUn) (by decide +kernel)) (fun _ _ _ _ _ => pg_name (i := 3) scUn.nd rfl (Or.inl rfl)) (fun _ _ _ _ _ => pts_nil)
          (fun _ _ _ _ _ => pe_call IH hr rfl m F.kp b .nil pass0 (pa_cons (pv 3) (pa_cons (pv 1) pa_nil)))) pa_nil))))))))), ?_⟩
    have two : (2 : Nat) ≤ sizeLine := by decide
    cases hA with
    | nam e =>
      refine ⟨_, rfl, _, _, _, _, rfl, rfl, SqT.of e, rfl, ?_⟩
      refine ⟨_, rfl, rfl, false, congrArg V.bl (decS lit_ne.2.2.2.2.2.2.1), iteF ?_⟩
      refine ⟨_, rfl, rfl, true, congrArg V.bl (decide_eq_true rfl), iteT ?_⟩
      exact ⟨_, rfl, k _ _ (Same.refl H) (.nam e)⟩
    | bnd e => exact hok.elim
    | var e =>
      rename_i a0 n0
      obtain ⟨hn1, hn2⟩ := (show lo ≤ n0 ∧ n0 ≤ j from hok)
      refine ⟨_, rfl, _, _, _, _, rfl, rfl, SqT.of e, rfl, ?_⟩
      refine ⟨_, rfl, rfl, true, congrArg V.bl (decide_eq_true rfl), iteT ?_⟩
      refine ⟨_, rfl, .inl ⟨rfl, _, SqL.of har⟩, _, rfl, _, _, _, _, rfl, rfl, SqT.of e, rfl, ?_⟩
      refine ⟨ar, dnL lo j, _, j - n0, V.int n0, rfl, rfl, SqL.of har, rfl, dnL_flat lo j, ?_, by simp [eqV], fun m z hm hz => ?_, two, fun p hp => ?_⟩
      · rw [dnL_get (by omega), show j - (j - n0) = n0 by omega]
      · rw [dnL_get (by omega)] at hz
        cases hz
        exact beq_eq_false_iff_ne.mpr (by omega)
      · exact k _ _ (Same.upd hp) (.bnd upd_same)
    | mad e e2 l =>
      rename_i a0 b0 f0 vs0 ps0
      refine ⟨_, rfl, _, _, _, _, rfl, rfl, SqT.of e, rfl, ?_⟩
      refine ⟨_, rfl, rfl, false, congrArg V.bl (decS lit_ne.2.2.2.2.2.2.2.2), iteF ?_⟩
      refine ⟨_, rfl, rfl, false, congrArg V.bl (decS lit_ne.2.2.1), iteF ?_⟩
      refine ⟨_, rfl, rfl, true, congrArg V.bl (decide_eq_true rfl), iteT ?_⟩
      refine ⟨_, rfl, _, _, _, _, rfl, rfl, SqT.of e, rfl, ?_⟩
      refine ⟨_, rfl, _, _, _, _, rfl, rfl, SqT.of e, rfl, _, rfl, ⟨_, SqT.of e2⟩, fun D hD => ?_⟩
      refine map_tup (K := K) (un h j) e2 l hD hok.1.1 (fun i v p H2 hp s2 pA Qe kq => ?_) (fun v => rfl) (fun H2 ys s2 hy hL => ?_)
      · exact ⟨_, rfl, _, rfl, _, p, ar, lo, j, rfl, pA, hok.2 p (List.mem_of_getElem? hp), s2 _ _ har, hlo, by omega, kq⟩
      · refine ⟨D, ys, rfl, .inl ⟨SqL.of hy, fun r hr => ⟨by show 3 ≤ sizeLine; decide, fun u hu => ?_⟩⟩⟩
        have s3 : Same H2 (upd H2 r (.tup ys)) := Same.upd hr
        have s4 : Same (upd H2 r (.tup ys)) (upd (upd H2 r (.tup ys)) u (.tup [V.str "made", V.str f0, V.ref r])) := Same.upd hu
        exact k _ _ ((s2.trans s3).trans s4) (.mad upd_same (s4 _ _ upd_same) ((hL.mono (.same s3)).mono (.same s4)))
    | bin e l => exact hok.elim
    | bnn e l =>
      rename_i a0 w0 k0 n0 v0 t0
      obtain ⟨w1, w2, w3⟩ := bw_ne w0
      obtain ⟨⟨rfl, _⟩, hok2⟩ := hok
      refine ⟨_, rfl, _, _, _, _, rfl, rfl, SqT.of e, rfl, ?_⟩
      refine ⟨_, rfl, rfl, false, congrArg V.bl (decS w3), iteF ?_⟩
      refine ⟨_, rfl, rfl, false, congrArg V.bl (decS w1), iteF ?_⟩
      refine ⟨_, rfl, rfl, false, congrArg V.bl (decS (litM.2.2.2.1 w0)), iteF ?_⟩
      refine ⟨_, rfl, two, fun p hp => ⟨p, _, rfl, .inl (SqL.of upd_same), rfl, rfl, true, congrArg V.bl (inW2.2.2.2.1 w0), iteT ?_⟩⟩
      have s1 : Same H (upd H p (.lst [.str "all", .str "some"])) := Same.upd hp
      generalize upd H p (.lst [.str "all", .str "some"]) = H1 at s1 ⊢
      refine ⟨_, rfl, _, rfl, _, _, _, _, rfl, rfl, SqT.of (s1 _ _ e), rfl, ?_⟩
      refine ⟨_, rfl, _, _, _, _, rfl, rfl, SqT.of (s1 _ _ e), rfl, _, rfl, _, _, _, _, rfl, rfl, SqT.of (s1 _ _ e), rfl, by show 1 ≤ sizeLine; decide, fun r hr => ?_⟩
      have s2 : Same H1 (upd H1 r (.lst [V.int ((j + 1 : Nat) : Int)])) := Same.upd hr
      refine ⟨_, rfl, _, _, _, _, rfl, rfl, upd_same, s2 _ _ (s1 _ _ har), Nat.le_of_lt (small1000 (by rw [dnL_len]; show 1 + _ ≤ 1000; omega)), fun u hu => ?_⟩
      have s3 := (s1.trans s2).trans (Same.upd (o := .lst ([V.int ((j + 1 : Nat) : Int)] ++ dnL lo j)) hu)
      refine ⟨_, t0, u, lo, j + 1, rfl, l.mono (.same s3), hok2, ?_, hlo, by omega, fun v' H' s4 a => ⟨by show 3 ≤ sizeLine; decide, fun x hx => ?_⟩⟩
      · rw [upd_same, dnL_cons (by omega)] <;> rfl
      · have s5 : Same H' (upd H' x (.tup [V.str w0.s, V.str k0, v'])) := Same.upd hx
        exact k _ _ ((s3.trans s4).trans s5) (.bin upd_same (a.mono (.same s5)))
    | nod e l =>
      rename_i a0 w0 vs0 ps0
      obtain ⟨w1, w2, w3⟩ := nw_ne w0
      refine ⟨_, rfl, _, _, _, _, rfl, rfl, SqT.of e, atI_nat (j := 0) rfl, ?_⟩
      refine ⟨_, rfl, rfl, false, congrArg V.bl (decS w3), iteF ?_⟩
      refine ⟨_, rfl, rfl, false, congrArg V.bl (decS w1), iteF ?_⟩
      refine ⟨_, rfl, rfl, false, congrArg V.bl (decS (litM.2.2.2.2 w0)), iteF ?_⟩
      refine ⟨_, rfl, two, fun p hp => ⟨p, _, rfl, .inl (SqL.of upd_same), rfl, rfl, false, congrArg V.bl (inW2.2.2.2.2.1 w0), iteF ?_⟩⟩
      have s1 : Same H (upd H p (.lst [.str "all", .str "some"])) := Same.upd hp
      generalize upd H p (.lst [.str "all", .str "some"]) = H1 at s1 ⊢
      refine ⟨_, rfl, by show 1 ≤ sizeLine; decide, fun r hr => ?_⟩
      have s2 : Same H1 (upd H1 r (.tup [.str w0.s])) := Same.upd hr
      have hr2 : upd H1 r (.tup [.str w0.s]) r = some (.tup [.str w0.s]) := upd_same
      generalize upd H1 r (.tup [.str w0.s]) = H2 at s2 hr2 ⊢
      have s02 := s1.trans s2
      refine ⟨_, rfl, 1, rfl, _, _, rfl, SqT.of (s02 _ _ e), fun z => absurd z.1 (cut1 _ _).1, fun _ p3 hp3 => ?_⟩
      rw [(cut1 _ _).2]
      have s3 : Same H2 (upd H2 p3 (.tup vs0)) := Same.upd hp3
      refine ⟨p3, rfl, ⟨_, SqT.of upd_same⟩, fun D hD => ?_⟩
      have s03 := s02.trans s3
      refine map_tup (K := K) (un h j) upd_same (l.mono (.same s03)) hD (Nat.le_trans hok.1 (by decide)) (fun i v p H4 hp s4 pA Qe kq => ?_) (fun v => rfl) (fun H4 ys s4 hy hL => ?_)
      · exact ⟨_, rfl, _, rfl, _, p, ar, lo, j, rfl, pA, hok.2 p (List.mem_of_getElem? hp), s4 _ _ (s03 _ _ har), hlo, by omega, kq⟩
      · refine ⟨D, ys, rfl, .inl ⟨SqL.of hy, fun u hu => ?_⟩⟩
        have s5 : Same H4 (upd H4 u (.tup ys)) := Same.upd hu
        have hll : ys.length ≤ 2 := by rw [hL.length, List.length_map]; exact hok.1
        refine ⟨r, u, [.str w0.s], ys, rfl, rfl, SqT.of (s5 _ _ (s4 _ _ (s3 _ _ hr2))), SqT.of upd_same, Nat.le_of_lt (small1000 (by show 1 + _ ≤ 1000; omega)), (fun z => nomatch z), fun _ z => ?_, fun _ _ x hx => ?_⟩
        · refine k _ _ ((s03.trans s4).trans s5) (.nod (vs := []) (s5 _ _ (s4 _ _ (s3 _ _ hr2))) ?_)
          rw [z] at hL
          exact hL.mono (.same s5)
        · have s6 : Same (upd H4 u (.tup ys)) (upd (upd H4 u (.tup ys)) x (.tup ([.str w0.s] ++ ys))) := Same.upd hx
          exact k _ _ (((s03.trans s4).trans s5).trans s6) (.nod upd_same ((hL.mono (.same s5)).mono (.same s6)))
end
end KD

/-! SP0: the order of pairs of texts; ranks. Plain Lean. -/
namespace SP
open PySem
abbrev PK := Str × Str
def ls (x y : Str) : Bool := decide (x.cps.toList < y.cps.toList)
def lp (p q : PK) : Bool := ls p.1 q.1 || (decide (p.1 = q.1) && ls p.2 q.2)
theorem ls_irr (x : Str) : ls x x = false := decide_eq_false (List.lt_irrefl _)
theorem ls_trans {x y z : Str} (h : ls x y = true) (k : ls y z = true) : ls x z = true := decide_eq_true (List.lt_trans (of_decide_eq_true h) (of_decide_eq_true k))
theorem list_tri : ∀ (a b : List Nat), a < b ∨ a = b ∨ b < a
  | [], [] => .inr (.inl rfl)
  | [], b :: bs => .inl (List.nil_lt_cons b bs)
  | a :: as, [] => .inr (.inr (List.nil_lt_cons a as))
  | a :: as, b :: bs => by
    rcases Nat.lt_trichotomy a b with h | h | h
    · exact .inl (List.cons_lt_cons_iff.mpr (.inl h))
    · subst h
      rcases list_tri as bs with k | k | k
      · exact .inl (List.cons_lt_cons_iff.mpr (.inr ⟨rfl, k⟩))
      · exact .inr (.inl (by rw [k]))
      · exact .inr (.inr (List.cons_lt_cons_iff.mpr (.inr ⟨rfl, k⟩)))
    · exact .inr (.inr (List.cons_lt_cons_iff.mpr (.inl h)))
theorem ls_tri (x y : Str) : ls x y = true ∨ x = y ∨ ls y x = true := by
  rcases list_tri x.cps.toList y.cps.toList with h | h | h
  · exact .inl (decide_eq_true h)
  · refine .inr (.inl ?_)
    cases x; cases y
    exact congrArg _ (Array.toList_inj.mp h)
  · exact .inr (.inr (decide_eq_true h))
theorem lp_iff {p q : PK} : lp p q = true ↔ ls p.1 q.1 = true ∨ (p.1 = q.1 ∧ ls p.2 q.2 = true) := by
  unfold lp
  rw [Bool.or_eq_true, Bool.and_eq_true, decide_eq_true_eq]
theorem lp_irr (p : PK) : lp p p = false := by
  rw [Bool.eq_false_iff]
  intro h
  rcases lp_iff.mp h with h | ⟨_, h⟩
  · rw [ls_irr] at h; cases h
  · rw [ls_irr] at h; cases h
theorem lp_trans {p q r : PK} (h : lp p q = true) (k : lp q r = true) : lp p r = true := by
  rcases lp_iff.mp h with h | ⟨e, h⟩
  · rcases lp_iff.mp k with k | ⟨e2, k⟩
    · exact lp_iff.mpr (.inl (ls_trans h k))
    · exact lp_iff.mpr (.inl (e2 ▸ h))
  · rcases lp_iff.mp k with k | ⟨e2, k⟩
    · exact lp_iff.mpr (.inl (e ▸ k))
    · exact lp_iff.mpr (.inr ⟨e.trans e2, ls_trans h k⟩)
theorem lp_tri (p q : PK) : lp p q = true ∨ p = q ∨ lp q p = true := by
  rcases ls_tri p.1 q.1 with h | h | h
  · exact .inl (lp_iff.mpr (.inl h))
  · rcases ls_tri p.2 q.2 with k | k | k
    · exact .inl (lp_iff.mpr (.inr ⟨h, k⟩))
    · exact .inr (.inl (Prod.ext h k))
    · exact .inr (.inr (lp_iff.mpr (.inr ⟨h.symm, k⟩)))
  · exact .inr (.inr (lp_iff.mpr (.inl h)))
/-- how many of D are lower -/
def rk (D : List PK) (p : PK) : Int := (D.countP fun d => lp d p : Nat)
theorem countP_lt {α : Type} {f g : α → Bool} : ∀ {l : List α}, (∀ x ∈ l, f x = true → g x = true) → (∃ x ∈ l, f x = false ∧ g x = true) → l.countP f < l.countP g
  | [], _, h => by obtain ⟨x, hx, _⟩ := h; cases hx
  | a :: l, h1, h2 => by
    rw [List.countP_cons, List.countP_cons]
    have hm : l.countP f ≤ l.countP g := List.countP_mono_left fun x hx => h1 x (List.mem_cons_of_mem _ hx)
    obtain ⟨x, hx, e1, e2⟩ := h2
    rcases List.mem_cons.mp hx with rfl | hx
    · rw [e1, e2]
      simp
      omega
    · have := countP_lt (l := l) (fun x hx => h1 x (List.mem_cons_of_mem _ hx)) ⟨x, hx, e1, e2⟩
      have k := h1 a List.mem_cons_self
      have hle : (if f a = true then 1 else 0) ≤ (if g a = true then 1 else 0) := by
        by_cases e : f a = true
        · rw [if_pos e, if_pos (k e)]; exact Nat.le_refl _
        · rw [if_neg e]; exact Nat.zero_le _
      omega
theorem rk_lt {D : List PK} {p q : PK} (hp : p ∈ D) (hq : q ∈ D) : decide (rk D p < rk D q) = lp p q := by
  cases h : lp p q with
  | true =>
    refine decide_eq_true ?_
    unfold rk
    have := countP_lt (f := fun d => lp d p) (g := fun d => lp d q) (l := D) (fun d _ e => lp_trans e h) ⟨p, hp, lp_irr p, h⟩
    omega
  | false =>
    refine decide_eq_false ?_
    unfold rk
    have : D.countP (fun d => lp d q) ≤ D.countP (fun d => lp d p) := by
      refine List.countP_mono_left fun d _ e => ?_
      rcases lp_tri p q with z | z | z
      · rw [h] at z; cases z
      · rw [z]; exact e
      · exact lp_trans e z
    omega
/-- strictly rising -/
def Rise (l : List PK) : Prop := l.Pairwise fun p q => lp p q = true
theorem rise_unique : ∀ {l m : List PK}, Rise l → Rise m → (∀ p, p ∈ l ↔ p ∈ m) → l = m
  | [], [], _, _, _ => rfl
  | [], b :: m, _, _, h => absurd ((h b).mpr List.mem_cons_self) (by simp)
  | a :: l, [], _, _, h => absurd ((h a).mp List.mem_cons_self) (by simp)
  | a :: l, b :: m, r1, r2, h => by
    have h1 := List.pairwise_cons.mp r1
    have h2 := List.pairwise_cons.mp r2
    have e : a = b := by
      rcases List.mem_cons.mp ((h a).mp List.mem_cons_self) with z | z
      · exact z
      · rcases List.mem_cons.mp ((h b).mpr List.mem_cons_self) with y | y
        · exact y.symm
        · have q1 := h1.1 b y
          have q2 := h2.1 a z
          have := lp_trans q1 q2
          rw [lp_irr] at this
          cases this
    subst e
    refine congrArg _ (rise_unique h1.2 h2.2 fun p => ⟨fun hp => ?_, fun hp => ?_⟩)
    · rcases List.mem_cons.mp ((h p).mp (List.mem_cons_of_mem _ hp)) with z | z
      · have := h1.1 p hp
        rw [z, lp_irr] at this
        cases this
      · exact z
    · rcases List.mem_cons.mp ((h p).mpr (List.mem_cons_of_mem _ hp)) with z | z
      · have := h2.1 p hp
        rw [z, lp_irr] at this
        cases this
      · exact z
/-- by ranks, each once: rising -/
theorem rise_of {D l : List PK} (hD : ∀ p ∈ l, p ∈ D) (nd : l.Nodup) (h : l.Pairwise fun p q => rk D p ≤ rk D q) : Rise l := by
  refine List.Pairwise.imp_of_mem (fun {p q} hp hq r => ?_) (List.Pairwise.and nd h)
  rcases lp_tri p q with z | z | z
  · exact z
  · exact absurd z r.1
  · have := rk_lt (hD q hq) (hD p hp)
    rw [z] at this
    have := of_decide_eq_true this
    omega
end SP

/-! SP1: sorting pairs of texts. -/
namespace SP
open PySem PySem.Spec PySem.W PyProof.Rows L2
/-- v is a tuple of these two texts -/
def IsP (h : Heap) (v : Value) (p : PK) : Prop := ∃ (a : Addr) (t u : Tok), v = .ref a ∧ IsTup h a #[.str p.1 t, .str p.2 u]
theorem IsP.keeps {h h' : Heap} {v : Value} {p : PK} (x : IsP h v p) (k : ∀ b o, h.get? b = some o → o.cls = .type "tuple" → h'.get? b = some o) : IsP h' v p := by
  obtain ⟨a, t, u, e, o, ho, hc, r⟩ := x
  exact ⟨a, t, u, e, o, k _ _ ho hc, hc, r⟩
/-- the two texts, read off the heap -/
def pOf (h : Heap) : Value → PK
  | .ref a => match h.get? a with
    | some ⟨_, _, .seq xs _, _⟩ => (match xs.toList with
      | [.str x _, .str y _] => (x, y)
      | _ => (⟨#[]⟩, ⟨#[]⟩))
    | _ => (⟨#[]⟩, ⟨#[]⟩)
  | _ => (⟨#[]⟩, ⟨#[]⟩)
theorem IsP.pOf {h : Heap} {v : Value} {p : PK} (x : IsP h v p) : pOf h v = p := by
  obtain ⟨a, t, u, rfl, ⟨cls, dd, data, sl⟩, ho, hc, n, hd⟩ := x
  simp only at hc hd
  subst hc hd
  simp only [SP.pOf, ho]
  all_goals rfl
theorem firstsP {h : Heap} : ∀ vs : List Value, (∀ v ∈ vs, ∃ p, IsP h v p) → ∃ fs, KatTups h vs fs ∧ fs.length = vs.length ∧ ∀ f ∈ fs, ∃ x t, f = Value.str x t
  | [], _ => ⟨[], KatTups.nil, rfl, fun f hf => nomatch hf⟩
  | v :: vs, x => by
    obtain ⟨fs, k, hl, hi⟩ := firstsP vs fun u hu => x u (List.mem_cons_of_mem _ hu)
    obtain ⟨p, a, t, u, rfl, o, ho, hc, n, hd⟩ := x v List.mem_cons_self
    refine ⟨.str p.1 t :: fs, KatTups.cons ho hc hd rfl k, by rw [List.length_cons, List.length_cons, hl], fun f hf => ?_⟩
    rcases List.mem_cons.mp hf with rfl | hf
    · exact ⟨_, _, rfl⟩
    · exact hi f hf
section
variable {prog : Program} {w : World} {A : Around} {E : Value → Shared → Prop} {s : Shared}
theorem kindP {vs : List Value} {D : List PK} (h2 : 2 ≤ vs.length) (x : ∀ v ∈ vs, ∃ p, IsP s.heap v p) {r : Value → Int} (hr : ∀ v ∈ vs, r v = rk D (pOf s.heap v)) (hD : ∀ v ∈ vs, pOf s.heap v ∈ D) (Q : SortKind → Shared → Prop)
    (h : ∀ κ, TS.Cmp prog w A s κ (pairsOf vs) r → Q κ s) : wpAny (model prog w) A (keyKind' vs.toArray) Q E s := by
  obtain ⟨fs, k, hl, hi⟩ := firstsP vs x
  refine kat_kind (T := Value.type "str") k (by omega) (fun f hf => ?_) rfl (h _ ?_)
  · obtain ⟨x, t, rfl⟩ := hi f hf
    exact Looks.of_pure rfl
  · intro a b ha hb Q' E' hQ
    rw [pairsOf_toList] at ha hb
    have ma := (mem_zip_self ha).2
    have mb := (mem_zip_self hb).2
    rw [hr _ ma, hr _ mb, rk_lt (hD _ ma) (hD _ mb)] at hQ
    obtain ⟨p, hp⟩ := x _ ma
    obtain ⟨q, hq⟩ := x _ mb
    rw [hp.pOf, hq.pOf] at hQ
    obtain ⟨c, t, u, e1, o, ho, hc, n, hd⟩ := hp
    obtain ⟨c', t', u', e2, o', ho', hc', n', hd'⟩ := hq
    rw [e1, e2]
    refine kat_lt ho hd ho' hd' ?_
    show KatLex prog w A _ false Q' [(Value.str p.1 t, Value.str q.1 t'), (Value.str p.2 u, Value.str q.2 u')] 0 s
    refine kat_cons (wpAny_eqBool_str (kat_go (fun z => ?_) fun z => ?_))
    · have e : p.1 = q.1 := of_decide_eq_true z
      refine kat_yes (kat_cons (wpAny_eqBool_str (kat_go (fun y => ?_) fun y => ?_)))
      · have e' : p.2 = q.2 := of_decide_eq_true y
        refine kat_yes (kat_nil ?_)
        have : lp p q = false := by rw [show p = q from Prod.ext e e', lp_irr]
        rw [this] at hQ
        exact hQ
      · refine kat_no (oneLt_any_str ?_)
        have : lp p q = decide (p.2.cps.toList < q.2.cps.toList) := by
          unfold lp
          rw [e, ls_irr, decide_eq_true rfl, Bool.false_or, Bool.true_and] <;> rfl
        rw [this] at hQ
        exact hQ
    · have e : ¬ p.1 = q.1 := of_decide_eq_false z
      refine kat_no (oneLt_any_str ?_)
      have : lp p q = decide (p.1.cps.toList < q.1.cps.toList) := by
        unfold lp
        rw [decide_eq_false e, Bool.false_and, Bool.or_false] <;> rfl
      rw [this] at hQ
      exact hQ
/-- list.sort of a list of pairs of texts -/
theorem sortP {a : Addr} {vs : List Value} {n : Nat} {R : PySem.Fin → Shared → Prop} (ho : s.heap.get? a = some (seqObj "list" vs.toArray n)) (h64 : vs.length < 64) (x : ∀ v ∈ vs, ∃ p, IsP s.heap v p)
    (h : ∀ out : Array Value, out.toList.Perm vs → out.toList.Pairwise (fun u v => rk (vs.map (pOf s.heap)) (pOf s.heap u) ≤ rk (vs.map (pOf s.heap)) (pOf s.heap v)) → R (.done (.ret .none)) { s with heap := sortedHeap s.heap a vs out }) :
    wpAny (model prog w) A (Builtin.«list.sort» ⟨[.ref a], []⟩) R E s := by
  have keep : ∀ b o, s.heap.get? b = some o → o.cls = .type "tuple" → (TS.midHeap s.heap a vs).get? b = some o := fun b o e hc => by
    refine TS.midHeap_old (fun z => ?_) e
    rw [z, ho] at e
    rw [← Option.some.inj e] at hc
    injection (show Value.type "list" = Value.type "tuple" from hc) with c
    exact absurd c (by decide)
  have pk : ∀ v ∈ vs, pOf (TS.midHeap s.heap a vs) v = pOf s.heap v := fun v hv => by
    obtain ⟨p, hp⟩ := x v hv
    rw [hp.pOf, (hp.keeps keep).pOf]
  refine SK.plain_sort (r := fun v => rk (vs.map (pOf s.heap)) (pOf s.heap v)) ho h64 (fun h2 Q hQ => ?_) fun ps out h1 h2 h3 => ?_
  · refine kindP (s := { s with heap := TS.midHeap s.heap a vs }) (D := vs.map (pOf s.heap)) h2 (fun v hv => ?_) (fun v hv => ?_) (fun v hv => ?_) Q hQ
    · obtain ⟨p, hp⟩ := x v hv
      exact ⟨p, hp.keeps keep⟩
    · show _ = rk _ (pOf (TS.midHeap s.heap a vs) v)
      rw [pk v hv]
    · show pOf (TS.midHeap s.heap a vs) v ∈ _
      rw [pk v hv]
      exact List.mem_map.mpr ⟨v, hv, rfl⟩
  · obtain ⟨p, o⟩ := TS.out_rank (r := fun v => rk (vs.map (pOf s.heap)) (pOf s.heap v)) h1 h2 h3
    exact h out p o
/-- a new list of these values, sorted: what sorted(..) does behind the collecting -/
theorem finP {vs : List Value} {R : PySem.Fin → Shared → Prop} (h64 : vs.length < 64) (x : ∀ v ∈ vs, ∃ p, IsP s.heap v p) (nd : (vs.map (pOf s.heap)).Nodup)
    (h : ∀ (h' : Heap) (out : List Value) (c : Nat), (∀ b o, s.heap.get? b = some o → h'.get? b = some o) → h'.get? s.heap.objs.size = some (seqObj "list" out.toArray c) → out.Perm vs → Rise (out.map (pOf s.heap)) →
      R (.done (.ret (.ref s.heap.objs.size))) { s with heap := h' }) :
    wpAny (model prog w) A (do let l ← newList vs; let _ ← holding [l] (call (.builtin "list.sort") [l] []); ret l) R E s := by
  refine wpAny_bind (wpAny_newList ?_ (by rw [sizeLine_eq]; omega))
  have hoL : (s.heap.push (seqObj "list" vs.toArray 0)).get? s.heap.objs.size = some (seqObj "list" vs.toArray 0) := Heap.get?_push_size _ rfl
  have keep : ∀ b o, s.heap.get? b = some o → (s.heap.push (seqObj "list" vs.toArray 0)).get? b = some o := fun b o e => Heap.get?_push_of_some _ e
  have pk : ∀ v ∈ vs, pOf (s.heap.push (seqObj "list" vs.toArray 0)) v = pOf s.heap v := fun v hv => by
    obtain ⟨p, hp⟩ := x v hv
    rw [hp.pOf, (hp.keeps fun b o e _ => keep b o e).pOf]
  refine wpAny_bind (wpAny_holding (wpAny_call_entry slot_list_sort ⟨_, hoL, rfl⟩ entry_list_sort
    (sortP (s := { s with heap := s.heap.push (seqObj "list" vs.toArray 0) }) hoL h64 (fun v hv => let ⟨p, hp⟩ := x v hv; ⟨p, hp.keeps fun b o e _ => keep b o e⟩) fun out a1 a2 => ⟨_, rfl, ?_⟩) (args_list_sort _)))
  obtain ⟨c, hc⟩ := sortedHeap_at (vs := vs) (out := out) hoL
  refine wpAny_pure (h _ out.toList c (fun b o e => ?_) (by rw [Array.toArray_toList]; exact hc) a1 ?_)
  · have hlt : b < s.heap.objs.size := Heap.lt_size e
    rw [sortedHeap_old (Nat.ne_of_lt hlt) (by rw [size_push']; exact Nat.lt_succ_of_lt hlt)]
    exact keep b o e
  · have em : vs.map (pOf (s.heap.push (seqObj "list" vs.toArray 0))) = vs.map (pOf s.heap) := List.map_congr_left pk
    refine rise_of (D := vs.map (pOf s.heap)) (fun p hp => (a1.map _).mem_iff.mp hp) ((a1.map _).nodup_iff.mpr nd) (List.pairwise_map.mpr (List.Pairwise.imp_of_mem (fun {u v} hu hv r => ?_) a2))
    have r' : rk (vs.map (pOf (s.heap.push (seqObj "list" vs.toArray 0)))) (pOf (s.heap.push (seqObj "list" vs.toArray 0)) u) ≤ rk (vs.map (pOf (s.heap.push (seqObj "list" vs.toArray 0)))) (pOf (s.heap.push (seqObj "list" vs.toArray 0)) v) := r
    rw [em, pk u (a1.mem_iff.mp hu), pk v (a1.mem_iff.mp hv)] at r'
    exact r'
end
end SP

/-! SP2: sorted(d), d a dict whose keys are pairs of texts. -/
namespace SP
open PySem PySem.Spec PySem.W PyProof.Rows L2
def keyP (p : PK) : List L2.Key := [Sum.inr p.1, Sum.inr p.2]
theorem keyP_inj {p q : PK} (h : keyP p = keyP q) : p = q := by
  unfold keyP at h
  injection h with h1 h2
  injection h2 with h2 _
  injection h1 with h1
  injection h2 with h2
  exact Prod.ext h1 h2
def tupP (p : PK) : HO := .tup [.str p.1, .str p.2]
def refA : Value → Addr
  | .ref a => a
  | _ => 0
/-- a new sorted list at p: its items are L's tuples -/
def OutP (H : Hp) (ks : List PK) (Q : VK) : Prop := ∀ (L : List (Addr × PK)) (p : Addr), (L.map (·.2)).Perm ks → Rise (L.map (·.2)) → (∀ x ∈ L, H x.1 = some (tupP x.2)) → H p = none → Q (.ref p) (upd H p (.lst (L.map fun x => .ref x.1)))
section
variable {X : Cx} {pins : List (Addr × Obj)} {σ : L2.St} {H : Hp} {s : Shared}
theorem isP_at (I : Inv X pins σ H s) {a : Addr} {p : PK} (h : H a = some (tupP p)) : IsP s.heap (.ref a) p := by
  have o : ObjOk X.prog X.w H s.heap a (.tup [.str p.1, .str p.2]) := I.hok a _ h
  obtain ⟨_, its, r, ht⟩ := o
  cases r with
  | cons r1 r' =>
    cases r' with
    | cons r2 r'' =>
      cases r''
      obtain ⟨t, rfl⟩ := r1
      obtain ⟨u, rfl⟩ := r2
      exact ⟨a, t, u, rfl, ht⟩
/-- the end of sorted(..) of tuples that are tracked -/
theorem endP {Q : VK} {kp : List (Addr × PK)} {A : Around} (I : Inv X pins σ H s) (h64 : kp.length < 64) (nd : (kp.map (·.2)).Nodup) (hk : ∀ x ∈ kp, H x.1 = some (tupP x.2)) {ks : List PK} (hks : (kp.map (·.2)).Perm ks) (h : OutP H ks Q)
    {vs : List Value} (hvs : vs.Perm (kp.map fun x => Value.ref x.1)) (wts : PySem.Fin → Shared → Prop) (hw : ∀ v s, EP X pins σ Q v s → wts (.done (.ret v)) s) :
    wpAny (model X.prog X.w) A (do let l ← newList vs; let _ ← holding [l] (call (.builtin "list.sort") [l] []); ret l) wts X.xe s := by
  have at_ : ∀ v ∈ vs, ∃ x ∈ kp, v = .ref x.1 ∧ IsP s.heap v x.2 := fun v hv => by
    obtain ⟨x, hx, rfl⟩ := List.mem_map.mp (hvs.mem_iff.mp hv)
    exact ⟨x, hx, rfl, isP_at I (hk x hx)⟩
  have pm : (vs.map (pOf s.heap)).Perm (kp.map (·.2)) := by
    refine (hvs.map _).trans (List.Perm.of_eq ?_)
    rw [List.map_map]
    exact List.map_congr_left fun x hx => (isP_at I (hk x hx)).pOf
  refine finP (by rw [hvs.length_eq, List.length_map]; exact h64) (fun v hv => let ⟨x, _, _, hp⟩ := at_ v hv; ⟨_, hp⟩) (pm.nodup_iff.mpr nd) fun h' out c k1 hc pm2 rise => hw _ _ ?_
  have hn : H s.heap.objs.size = none := I.hok.fresh (Nat.le_refl _)
  have hL : ∀ v ∈ out, ∃ x ∈ kp, v = .ref x.1 ∧ IsP s.heap v x.2 := fun v hv => at_ v (pm2.mem_iff.mp hv)
  have e1 : (out.map fun v => (refA v, pOf s.heap v)).map (fun x => V.ref x.1) = out.map fun v => V.ref (refA v) := by
    rw [List.map_map] <;> rfl
  have hV : Vals ((out.map fun v => (refA v, pOf s.heap v)).map fun x => V.ref x.1) out := by
    rw [e1]
    clear e1 rise pm2 hc
    induction out with
    | nil => exact .nil
    | cons v out ih =>
      obtain ⟨x, _, e, _⟩ := hL v List.mem_cons_self
      refine .cons ?_ (ih fun u hu => hL u (List.mem_cons_of_mem _ hu))
      rw [e] <;> rfl
  have hlen : ((out.map fun v => (refA v, pOf s.heap v)).map fun x => V.ref x.1).length ≤ sizeLine := by
    rw [List.length_map, List.length_map, pm2.length_eq, hvs.length_eq, List.length_map, sizeLine_eq]
    omega
  refine ⟨.ref s.heap.objs.size, _, I.laid (t' := s.toks) (o := .lst ((out.map fun v => (refA v, pOf s.heap v)).map fun x => V.ref x.1)) k1 (Nat.le_refl _) ⟨hlen, out, c, hV, hc⟩, rfl, h (out.map fun v => (refA v, pOf s.heap v)) _ ?_ ?_ (fun x hx => ?_) hn⟩
  · rw [List.map_map]
    exact ((pm2.map _).trans pm).trans hks
  · rw [List.map_map]
    exact rise
  · obtain ⟨v, hv, rfl⟩ := List.mem_map.mp hx
    obtain ⟨x, hx, e, hp⟩ := hL v hv
    rw [hp.pOf, e]
    exact hk x hx
end
end SP

/-! SP3: sorted(d). -/
namespace SP
open PySem PySem.Spec PySem.W PyProof.Rows L2
theorem pairs_of {H : Hp} : ∀ {kvs : List (List L2.Key × V)} {xs : List (List L2.Key × Addr × Value)} {ks : List PK}, Paired (fun (p : List L2.Key × V) (q : List L2.Key × Addr × Value) => p.1 = q.1 ∧ H q.2.1 = some (.tup (p.1.map kV)) ∧ RelV p.2 q.2.2) kvs xs → kvs.map (·.1) = ks.map keyP →
    ∃ kp : List (Addr × PK), kp.map (·.2) = ks ∧ (xs.map fun q => Value.ref q.2.1) = (kp.map fun x => Value.ref x.1) ∧ xs.map (·.1) = ks.map keyP ∧ ∀ x ∈ kp, H x.1 = some (tupP x.2)
  | [], [], ks, .nil, h => by
    cases ks with
    | nil => exact ⟨[], rfl, rfl, rfl, fun x hx => nomatch hx⟩
    | cons k ks => cases h
  | p :: kvs, q :: xs, ks, .cons r t, h => by
    cases ks with
    | nil => cases h
    | cons k ks =>
      rw [List.map_cons, List.map_cons] at h
      injection h with h1 h2
      obtain ⟨kp, e1, e2, e3, e4⟩ := pairs_of t h2
      refine ⟨(q.2.1, k) :: kp, by rw [List.map_cons, e1], by rw [List.map_cons, List.map_cons, e2], by rw [List.map_cons, List.map_cons, e3, ← r.1, h1], fun x hx => ?_⟩
      rcases List.mem_cons.mp hx with rfl | hx
      · have := r.2.1
        rw [h1] at this
        exact this
      · exact e4 x hx
def rSortDT : List V → Hp → VK → Prop := fun xs H Q => ∃ (a : Addr) (kvs : List (List L2.Key × V)) (ks : List PK), xs = [.ref a] ∧ H a = some (.dT kvs) ∧ kvs.map (·.1) = ks.map keyP ∧ ks.length < 64 ∧ OutP H ks Q
section
variable {X : Cx}
theorem cr_sortDT (hc : X.calm = true) : CallR X (.builtin "sorted") rSortDT := by
  intro pins s σ H xs us Q I r q
  obtain ⟨a, kvs, ks, ex, hd, hks, h64, q⟩ := q
  subst ex
  rw [Vals.ref1 r]
  have o : ObjOk X.prog X.w H s.heap a (.dT kvs) := I.hok a _ hd
  obtain ⟨hz, lo, xs, pr, ob, es, ep, ho, hex, hdt, hes, nd⟩ := o
  obtain ⟨kp, e1, e2, e3, e4⟩ := pairs_of pr hks
  have raw : s.heap.DictRaw a es ep := ⟨ob, ho, hex, hdt⟩
  have nk : ks.Nodup := by
    have q : (ks.map keyP).Nodup := by rw [← e3]; exact nd
    exact List.Pairwise.of_map keyP (fun p q hne e => hne (congrArg keyP e)) q
  have hsz : es.size ≤ sizeLine := by
    have l1 := congrArg List.length hes
    have l2 := congrArg List.length e3
    rw [List.length_map, Array.length_toList] at l1
    rw [List.length_map, List.length_map] at l2
    rw [sizeLine_eq]
    omega
  refine Calls.call_function_entry kind_sorted plain_sorted entry_sorted (args_sorted1 _) ?_
  unfold Builtin.«sorted»
  refine wpAny_bind (m := checkCount "sorted" 1 1 _) (wpAny_pure ?_)
  refine wpAny_bind (kdu_collect (A := X.A.in1) (KdlSrc.rawDict lo) (I.ok.hd hc) raw hsz fun h' tk acc hk hacc => ?_)
  have I1 : Inv X pins σ H { s with heap := h', toks := tk } := I.kept hk
  have hvs : acc.toList = kp.map fun x => Value.ref x.1 := by
    rw [← e2]
    refine List.ext_getElem? fun i => ?_
    have l1 := congrArg List.length hes
    rw [List.length_map, Array.length_toList] at l1
    by_cases hi : i < es.size
    · have h1 : i < acc.toList.length := by rw [Array.length_toList, hacc.1]; exact hi
      obtain ⟨_, hv⟩ := hacc.2 i acc.toList[i] (by rw [← Array.getElem?_toList, List.getElem?_eq_getElem h1])
      rw [List.getElem?_eq_getElem h1, hv, List.getElem?_map]
      have h2 : es.toList[i]? = (xs.map (entryOfKey (tupleKind (mixKind X.prog X.w))))[i]? := by rw [hes]
      rw [Array.getElem?_toList, Array.getElem?_eq_getElem hi, List.getElem?_map] at h2
      cases hx : xs[i]? with
      | none => rw [hx] at h2; cases h2
      | some x =>
        rw [hx] at h2
        rw [Option.some.inj h2] <;> rfl
    · rw [List.getElem?_eq_none (by rw [Array.length_toList, hacc.1]; omega), List.getElem?_eq_none (by rw [List.length_map]; omega)]
  refine endP (A := X.A.in1) (vs := acc.toList) I1 (by rw [← List.length_map (f := (·.2)), e1]; exact h64) (by rw [e1]; exact nk) e4 (List.Perm.of_eq e1) q (List.Perm.of_eq hvs) _ fun v s hv => ⟨_, rfl, hv⟩
end
end SP

/-! SP4: sets of pairs of texts: the search. -/
namespace SP
open PySem PySem.Spec PyProof.Rows L2
@[irreducible] def hsh (Pg : Program) (wd : World) (p : PK) : Int := tupleKeyHash (mixKind Pg wd) (keyP p)
theorem hsh_eq (Pg : Program) (wd : World) (p : PK) : tupleKeyHash (mixKind Pg wd) (keyP p) = hsh Pg wd p := by unfold hsh; rfl
abbrev IsK (Pg : Program) (wd : World) (hp : Heap) (p : PK) (a : Addr) : Prop := IsTupleKey (mixKind Pg wd) hp (keyP p) a
theorem isK_of {Pg : Program} {wd : World} {hp : Heap} {p : PK} {a : Addr} (x : IsP hp (.ref a) p) : IsK Pg wd hp p a := by
  obtain ⟨b, t, u, e, o, ho, hc, n, hd⟩ := x
  cases e
  exact ⟨o, _, n, ho, hc, hd, .cons (mixKind_str Pg wd p.1 t) (.cons (mixKind_str Pg wd p.2 u) .nil)⟩
def isTx (v : Value) : Prop := ∃ x t, v = Value.str x t
theorem txts {Pg : Program} {wd : World} : ∀ {ks : List L2.Key} {us : List Value}, (∀ k ∈ ks, ∃ x, k = Sum.inr x) → ItemsAre (mixKind Pg wd) ks us → ∀ v ∈ us, isTx v
  | [], _, _, .nil => fun v hv => nomatch hv
  | k :: ks, _, hk, .cons h1 t => fun v hv => by
    rcases List.mem_cons.mp hv with rfl | hv
    · obtain ⟨x, rfl⟩ := hk k List.mem_cons_self
      obtain ⟨tk, e⟩ := Value.isStrOf_shape (x := x) (v := v) h1
      exact ⟨x, tk, e⟩
    · exact txts (fun q hq => hk q (List.mem_cons_of_mem _ hq)) t v hv
theorem keyP_tx (p : PK) : ∀ k ∈ keyP p, ∃ x, k = Sum.inr x := fun k hk => by
  simp only [keyP, List.mem_cons, List.not_mem_nil, or_false] at hk
  rcases hk with rfl | rfl
  · exact ⟨_, rfl⟩
  · exact ⟨_, rfl⟩
theorem noClass_str (n : Nat) (x : Str) (t : Tok) : ofAClassStatement n (.str x t) = pure false := by cases n <;> rfl
theorem byValue_str (n : Nat) (x : Str) (t : Tok) : hashByValue n (.str x t) = pure false := by cases n <;> rfl
section
variable {Pg : Program} {wd : World} {Ar : Around} {Er : Value → Shared → Prop} {st : Shared}
theorem noClassP {p : PK} {b : Addr} {R : Bool → Shared → Prop} (x : IsK Pg wd st.heap p b) (h : R false st) : wpAny (model Pg wd) Ar (ofAClassStatement 8 (.ref b)) R Er st := by
  have ty := x.typeIs
  obtain ⟨o, its, n, ho, _, hd, hi⟩ := x
  unfold ofAClassStatement
  refine wpAny_bind (wpAny_typeOf ty ?_)
  dsimp only
  have e : (("tuple" : String) == "tuple") = true := by decide
  simp only [e, if_true, Bool.not_true, Bool.false_eq_true, if_false]
  show wpAny _ _ (seqItems? (.ref b) >>= _) _ _ st
  refine wpAny_bind (wpAny_seqItems ho hd (wpAny_bind ?_))
  show wpAny _ _ (forIn its _ _) _ _ st
  rw [← Array.forIn_toList]
  refine wpAny_forIn_list _ (fun l r s1 => (r.1 = none ∧ s1 = st) ∧ ∀ v ∈ l, isTx v) _ ?_ ?_ _ _ ⟨⟨rfl, rfl⟩, txts (keyP_tx p) hi⟩
  · rintro v l r s1 ⟨⟨hr, rfl⟩, ha⟩
    obtain ⟨y, t, rfl⟩ := ha v List.mem_cons_self
    rw [noClass_str]
    refine wpAny_bind (wpAny_pure ?_)
    simp only [Bool.false_eq_true, if_false]
    exact wpAny_pure ⟨⟨rfl, rfl⟩, fun u hu => ha u (List.mem_cons_of_mem _ hu)⟩
  · rintro ⟨r1, r2⟩ s1 ⟨⟨hr, rfl⟩, _⟩
    obtain rfl : r1 = none := hr
    exact wpAny_pure h
theorem byValueP {p : PK} {b : Addr} {R : Bool → Shared → Prop} (x : IsK Pg wd st.heap p b) (h : R false st) : wpAny (model Pg wd) Ar (hashByValue 8 (.ref b)) R Er st := by
  have ty := x.typeIs
  obtain ⟨o, its, n, ho, _, hd, hi⟩ := x
  have hall := txts (keyP_tx p) hi
  have hne : its.toList ≠ [] := fun z => by
    rw [z] at hi
    cases hi
  unfold hashByValue
  refine wpAny_bind (wpAny_specialOf ty F.slot_tuple_hash.lookup ?_)
  show wpAny _ _ (seqItems? (.ref b) >>= _) _ _ st
  refine wpAny_bind (wpAny_seqItems ho hd (wpAny_bind ?_))
  show wpAny _ _ (forIn its _ _) _ _ st
  rw [← Array.forIn_toList]
  refine wpAny_forIn_list _ (fun l r s1 => (s1 = st ∧ l ≠ []) ∧ ∀ v ∈ l, isTx v) _ ?_ ?_ _ _ ⟨⟨rfl, hne⟩, hall⟩
  · rintro v l r s1 ⟨⟨rfl, _⟩, ha⟩
    obtain ⟨y, t, rfl⟩ := ha v List.mem_cons_self
    rw [byValue_str]
    refine wpAny_bind (wpAny_pure ?_)
    simp only [Bool.not_false, if_true]
    exact wpAny_pure (wpAny_pure h)
  · rintro r s1 ⟨⟨_, hn⟩, _⟩
    exact absurd rfl hn
def isKs (Pg : Program) (wd : World) (hp : Heap) (v : Value) : Prop := ∃ p c, v = Value.ref c ∧ IsK Pg wd hp p c
theorem seenP {p : PK} {b : Addr} {R : Bool → Shared → Prop} (x : IsK Pg wd st.heap p b) {ys : List Value} (hy : ∀ y ∈ ys, isKs Pg wd st.heap y) (h : R false st) : wpAny (model Pg wd) Ar (searchCouldBeSeen (.ref b) ys) R Er st := by
  unfold searchCouldBeSeen
  refine wpAny_bind ?_
  refine wpAny_forIn_list _ (fun l r s1 => (r.1 = none ∧ s1 = st) ∧ ∀ v ∈ l, isKs Pg wd s1.heap v) _ ?_ ?_ _ _ ⟨⟨rfl, rfl⟩, hy⟩
  · rintro v l r s1 ⟨⟨hr, rfl⟩, ha⟩
    obtain ⟨q, c, rfl, hc⟩ := ha v List.mem_cons_self
    have tl : ∀ y ∈ l, isKs Pg wd s1.heap y := fun u hu => ha u (List.mem_cons_of_mem _ hu)
    dsimp only
    by_cases hv : (b == c || (carriedByValue (.ref b) && carriedByValue (.ref c))) = true
    · exact wp_if_pos hv (wpAny_pure ⟨⟨rfl, rfl⟩, tl⟩)
    · refine wp_if_neg hv (wpAny_bind (wpAny_eqIsQuiet_tuple x ?_))
      simp only [Bool.not_true, Bool.false_eq_true, if_false]
      refine wpAny_bind (wpAny_eqIsQuiet_tuple hc ?_)
      simp only [Bool.not_true, Bool.false_eq_true, if_false]
      refine wpAny_bind (noClassP x ?_)
      simp only [Bool.false_eq_true, if_false]
      refine wpAny_bind (noClassP hc ?_)
      simp only [Bool.false_eq_true, if_false]
      exact wpAny_pure ⟨⟨rfl, rfl⟩, tl⟩
  · rintro ⟨r1, r2⟩ s1 ⟨⟨hr, rfl⟩, _⟩
    obtain rfl : r1 = none := hr
    exact wpAny_pure h
/-! ### the set -/
def rowsP (Pg : Program) (wd : World) (L : List (Addr × PK)) : List (Int × Value) := L.map fun q => (hsh Pg wd q.2, Value.ref q.1)
def hshs (Pg : Program) (wd : World) (L : List (Addr × PK)) : List Int := L.map fun q => hsh Pg wd q.2
structure SetP (Pg : Program) (wd : World) (hp : Heap) (a : Addr) (L : List (Addr × PK)) (es : Array (Int × Value)) (ep : Nat) (tb : SetTable) : Prop where
  ob : ∃ o, hp.get? a = some o ∧ o.ExactSet ∧ o.data = .set es ep tb
  rows : es.toList = rowsP Pg wd L
  tab : TabOk tb (hshs Pg wd L)
  once : (L.map (·.2)).Nodup
  tups : ∀ q ∈ L, IsK Pg wd hp q.2 q.1
  led : wd.params.followText "set-order" = true ∨ tb.led = true
  room : L.length * 5 < tb.mask * 3
  few : L.length < 64
variable {a : Addr} {L : List (Addr × PK)} {es : Array (Int × Value)} {ep : Nat} {tb : SetTable}
theorem SetP.size (S : SetP Pg wd st.heap a L es ep tb) : es.size = L.length := by
  have q := congrArg List.length S.rows
  rw [Array.length_toList, rowsP, List.length_map] at q
  exact q
theorem SetP.fits (S : SetP Pg wd st.heap a L es ep tb) : tb.fits es.size = true := by
  have q := S.tab.sz
  rw [hshs, List.length_map] at q
  have z := S.size
  have r := S.room
  unfold SetTable.fits SetTable.fill
  rw [S.tab.dm, Bool.and_eq_true, beq_iff_eq, decide_eq_true_eq]
  show tb.place.size = es.size ∧ tb.place.size + 0 ≤ tb.mask
  omega
theorem SetP.row (S : SetP Pg wd st.heap a L es ep tb) {i : Nat} {q : Addr × PK} (h : L[i]? = some q) : es[i]? = some (hsh Pg wd q.2, Value.ref q.1) := by
  rw [← Array.getElem?_toList, S.rows, rowsP, List.getElem?_map, h] <;> rfl
theorem SetP.gives (S : SetP Pg wd st.heap a L es ep tb) : ¬ tb.gaveWay = true := by
  unfold SetTable.gaveWay
  rw [mask_odd S.tab.mok]
  decide
abbrev wy (tb : SetTable) (Pg : Program) (wd : World) (p : PK) (k : Nat) : Nat := way tb.mask (hsh Pg wd p) k
abbrev pr (tb : SetTable) (Pg : Program) (wd : World) (p : PK) : SetTable.Probe := runAt tb.mask (SetTable.bits (hsh Pg wd p) % (tb.mask + 1)) (SetTable.bits (hsh Pg wd p))
theorem nth_clean (m : Nat) : ∀ (n : Nat) (q : SetTable.Probe), q.dummy = none → (nth m q n).dummy = none
  | 0, q, h => h
  | n + 1, q, h => nth_clean m n (adv m q) (by unfold adv; split <;> exact h)
end
end SP

/-! SP5: the search for a pair in a set. -/
namespace SP
open PySem PySem.Spec PyProof.Rows L2
theorem map_at {α β : Type} (f : α → β) {l : List α} {i : Nat} {x : α} (e : l[i]? = some x) : (l.map f)[i]? = some (f x) := by
  rw [List.getElem?_map, e]
  rfl
theorem hshs_get {Pg : Program} {wd : World} {L : List (Addr × PK)} {i : Nat} {q : Addr × PK} (h : L[i]? = some q) : (hshs Pg wd L)[i]? = some (hsh Pg wd q.2) := @map_at _ _ (fun q : Addr × PK => hsh Pg wd q.2) L i q h
section
variable {Pg : Program} {wd : World} {Ar : Around} {Er : Value → Shared → Prop} {st : Shared} {a : Addr} {L : List (Addr × PK)} {es : Array (Int × Value)} {ep : Nat} {tb : SetTable}
theorem keyP_ne {p q : PK} (h : p ≠ q) : decide (keyP p = keyP q) = false := decide_eq_false fun e => h (keyP_inj e)
theorem fst_of {o : Option (Int × Value)} {v : Value} {k : Int} (e : o = some (k, v)) : (o.map (·.1)).getD 0 = k := by
  rw [e]
  rfl
theorem map_of {α β : Type} (f : α → β) {l : List α} {i : Nat} {x : α} (e : l[i]? = some x) : (l.map f)[i]? = some (f x) := by
  rw [List.getElem?_map, e]
  rfl
/-- from the c-th step of the way on; the first free slot is the K-th -/
theorem searchP (S : SetP Pg wd st.heap a L es ep tb) {b : Addr} {p : PK} (hb : IsK Pg wd st.heap p b) (hu : Ar.units < cLine) {K : Nat} (hK0 : K < 10 * SetTable.turns tb.mask) (hK1 : wy tb Pg wd p K ∉ tb.place.toList)
    (hK2 : ∀ c, c < K → wy tb Pg wd p c ∈ tb.place.toList) {R : SetFound → Shared → Prop} (yes : p ∈ L.map (·.2) → R (.there none) st) (no : p ∉ L.map (·.2) → R (.free (wy tb Pg wd p K) false) st) :
    ∀ (f c : Nat) (sd : Option SetTable.Probe), sd.getD (tb.probeStart (hsh Pg wd p)) = nth tb.mask (pr tb Pg wd p) c → c ≤ K → K - c < f →
      (∀ (i : Nat) q, L[i]? = some q → q.2 = p → ∃ d, c ≤ d ∧ d < K ∧ tb.place.toList[i]? = some (wy tb Pg wd p d)) →
      wpAny (model Pg wd) Ar (setSearchFrom a (.ref b) (hsh Pg wd p) true f sd) R Er st
  | 0, _, _, _, _, hf, _ => absurd hf (Nat.not_lt_zero _)
  | f + 1, c, sd, hsd, hc, hf, ahead => by
    obtain ⟨ob, hob, hex, hdat⟩ := S.ob
    rw [setSearchFrom_succ]
    refine wpAny_bind (wpAny_setState_of hob hdat S.fits ?_)
    dsimp only
    refine wp_if_neg S.gives ?_
    try refine wpAny_bind (wpAny_pure ?_)
    have shift : ∀ q, nth tb.mask (nth tb.mask (pr tb Pg wd p) c) q = nth tb.mask (pr tb Pg wd p) (c + q) := fun q => (nth_add tb.mask c _ q).symm
    have jAt : ∀ q, (nth tb.mask (nth tb.mask (pr tb Pg wd p) c) q).j = wy tb Pg wd p (c + q) := fun q => congrArg SetTable.Probe.j (shift q)
    have hEnd : c + (K - c) = K := by omega
    have told := go_spec tb S.tab.ris S.tab.dm (fun i => (es[i]?.map (·.1)).getD 0) (hsh Pg wd p) (10 * SetTable.turns tb.mask) (K - c) _ (nth_clean tb.mask c (pr tb Pg wd p) rfl) (by omega)
      (fun q hq => by rw [jAt]; exact hK2 (c + q) (by omega)) (by rw [jAt, hEnd]; exact hK1)
    have hAt : ∀ (i : Nat) q, L[i]? = some q → (fun i => (es[i]?.map (·.1)).getD 0) i = hsh Pg wd q.2 := fun i q hq => by
      show (es[i]?.map (·.1)).getD 0 = _
      exact fst_of (S.row hq)
    rcases told with ⟨q, i, hq, hi, hh, hno, hp⟩ | ⟨hno, hp⟩
    · have hp' : tb.probe (fun i => (es[i]?.map (·.1)).getD 0) (hsh Pg wd p) (sd.getD (tb.probeStart (hsh Pg wd p))) = some (.candidate (wy tb Pg wd p (c + q)) i (nth tb.mask (pr tb Pg wd p) (c + (q + 1)))) := by
        rw [hsd, ← jAt, ← shift]
        exact hp
      rw [hp']
      dsimp only
      rw [jAt] at hi
      have hlt : i < L.length := by
        have z1 := (List.getElem?_eq_some_iff.mp hi).1
        have z2 := S.tab.sz
        rw [hshs, List.length_map] at z2
        rw [Array.length_toList] at z1
        omega
      obtain ⟨r, hr⟩ : ∃ r, L[i]? = some r := ⟨_, List.getElem?_eq_getElem hlt⟩
      have hm : r ∈ L := List.mem_of_getElem? hr
      have hrT := S.tups r hm
      have behind : wpAny (model Pg wd) Ar (searchRest a (.ref b) (hsh Pg wd p) true f es tb (wy tb Pg wd p (c + q)) i (nth tb.mask (pr tb Pg wd p) (c + (q + 1)))) R Er st := by
        unfold searchRest
        rw [S.row hr]
        dsimp only
        refine wpAny_bind (wpAny_holding (wpAny_eqBool_tuple hu hrT hb (wpAny_bind (wpAny_setState_of hob hdat S.fits ?_))))
        dsimp only
        by_cases hpk : r.2 = p
        · refine wp_if_pos (by simp [hpk]) (wpAny_pure (yes ?_))
          rw [← hpk]
          exact List.mem_map_of_mem hm
        · have hkk : ¬ keyP r.2 = keyP p := fun e => hpk (keyP_inj e)
          refine wp_if_neg (by simp [hkk]) ?_
          try refine wpAny_bind (wpAny_pure ?_)
          rw [sameMem]
          dsimp only
          have live : tb.slot (wy tb Pg wd p (c + q)) = .live i := slot_live S.tab.ris hi
          simp only [if_true, live, S.row hr]
          refine wpAny_bind (wpAny_isSame_ref_self (wpAny_bind (wpAny_pure ?_)))
          simp only [if_true]
          refine wp_if_neg (by simp [hkk]) ?_
          refine searchP S hb hu hK0 hK1 hK2 yes no f (c + (q + 1)) _ rfl (by omega) (by omega) fun i0 q0 h0 e0 => ?_
          obtain ⟨d, d1, d2, d3⟩ := ahead i0 q0 h0 e0
          refine ⟨d, ?_, d2, d3⟩
          rcases Nat.lt_trichotomy d (c + q) with z | z | z
          · refine absurd ((hAt i0 q0 h0).trans (congrArg (hsh Pg wd) e0)) (hno (d - c) i0 (by omega) ?_)
            rw [jAt, show c + (d - c) = d by omega]
            exact d3
          · rw [z] at d3
            have live2 := slot_live S.tab.ris d3
            rw [live] at live2
            injection live2 with live2
            rw [← live2, hr] at h0
            exact absurd ((congrArg Prod.snd (Option.some.inj h0)).trans e0) hpk
          · omega
      by_cases hl : tb.led = true
      · refine wp_if_neg (by simp [hl]) ?_
        try refine wpAny_bind (wpAny_pure ?_)
        exact behind
      · refine wp_if_pos (by simp [hl]) (wpAny_bind (seenP hb (fun y hy => ?_) ?_))
        · obtain ⟨e, he, rfl⟩ := List.mem_map.mp hy
          have he2 : e ∈ es.toList := by
            have : e ∈ es ∧ e.1 = hsh Pg wd p := by simpa using he
            simpa using this.1
          rw [S.rows] at he2
          obtain ⟨q2, hq2, rfl⟩ := List.mem_map.mp he2
          exact ⟨q2.2, q2.1, rfl, S.tups q2 hq2⟩
        · refine wp_if_neg (by decide) ?_
          try refine wpAny_bind (wpAny_pure ?_)
          exact behind
    · have hp' : tb.probe (fun i => (es[i]?.map (·.1)).getD 0) (hsh Pg wd p) (sd.getD (tb.probeStart (hsh Pg wd p))) = some (.empty (wy tb Pg wd p K) none) := by
        have z : wy tb Pg wd p K = (nth tb.mask (nth tb.mask (pr tb Pg wd p) c) (K - c)).j := by rw [jAt, hEnd]
        rw [hsd, z]
        exact hp
      rw [hp']
      dsimp only
      refine wpAny_pure (no fun hm => ?_)
      obtain ⟨q0, hq0, e0⟩ := List.mem_map.mp hm
      obtain ⟨i0, hi0⟩ := List.mem_iff_getElem?.mp hq0
      obtain ⟨d, d1, d2, d3⟩ := ahead i0 q0 hi0 e0
      refine absurd ((hAt i0 q0 hi0).trans (congrArg (hsh Pg wd) e0)) (hno (d - c) i0 (by omega) ?_)
      rw [jAt, show c + (d - c) = d by omega]
      exact d3
theorem findP (S : SetP Pg wd st.heap a L es ep tb) {b : Addr} {p : PK} (hb : IsK Pg wd st.heap p b) (hu : Ar.units < cLine) {R : SetFound → Shared → Prop} (yes : p ∈ L.map (·.2) → R (.there none) st)
    (no : ∀ K, p ∉ L.map (·.2) → wy tb Pg wd p K ∉ tb.place.toList → (∀ c, c < K → wy tb Pg wd p c ∈ tb.place.toList) → R (.free (wy tb Pg wd p K) false) st) : wpAny (model Pg wd) Ar (setSearch a (.ref b) (hsh Pg wd p) true) R Er st := by
  have rm := S.room
  obtain ⟨K, hK0, hK1, hK2⟩ := S.tab.first (by rw [hshs, List.length_map]; omega) (hsh Pg wd p)
  have big : 10 * SetTable.turns tb.mask ≤ 1420 := by
    unfold SetTable.turns
    rcases S.tab.mok with e | e | e <;> omega
  unfold setSearch
  refine searchP S hb hu hK0 hK1 hK2 yes (fun hn => no K hn hK1 hK2) 100000 0 none (start_run tb (hsh Pg wd p)) (Nat.zero_le _) (by omega) fun i q hq e => ?_
  have h1 : (hshs Pg wd L)[i]? = some (hsh Pg wd p) := e ▸ hshs_get hq
  have hlt : i < tb.place.toList.length := by
    have z1 := (List.getElem?_eq_some_iff.mp hq).1
    have z2 := S.tab.sz
    rw [hshs, List.length_map] at z2
    rw [Array.length_toList]
    omega
  have hj := List.getElem?_eq_getElem hlt
  obtain ⟨d, hd, e2⟩ := S.tab.before hK1 h1 hj
  exact ⟨d, Nat.zero_le _, hd, hj.trans (congrArg some e2.symm)⟩
end
end SP

/-! SP6: a pair put into a set. -/
namespace SP
open PySem PySem.Spec PyProof.Rows L2
section
variable {Pg : Program} {wd : World} {Ar : Around} {Er : Value → Shared → Prop} {st : Shared} {a : Addr} {L : List (Addr × PK)} {es : Array (Int × Value)} {ep : Nat} {tb : SetTable}
theorem IsK.but {h0 h1 : Heap} {p : PK} {b : Addr} {o : Obj} (x : IsK Pg wd h0 p b) (ho : h0.get? a = some o) (hd : o.data = .set es ep tb) (sb : Heap.SameBut a h0 h1) : IsK Pg wd h1 p b := by
  obtain ⟨o2, its, n, h2, hc, hd2, hi⟩ := x
  have ne : b ≠ a := fun z => by
    rw [z, ho] at h2
    cases Option.some.inj h2
    rw [hd] at hd2
    cases hd2
  exact ⟨o2, its, n, (sb.2 b ne).trans h2, hc, hd2, hi⟩
theorem IsK.kept {h0 h1 : Heap} {p : PK} {b : Addr} (x : IsK Pg wd h0 p b) (k : ∀ c o, h0.get? c = some o → h1.get? c = some o) : IsK Pg wd h1 p b := by
  obtain ⟨o2, its, n, h2, r⟩ := x
  exact ⟨o2, its, n, k b o2 h2, r⟩
theorem rowsP_len (L : List (Addr × PK)) : (rowsP Pg wd L).length = L.length := List.length_map _
theorem rowsP_put (L : List (Addr × PK)) (i : Nat) (b : Addr) (p : PK) : rowsP Pg wd (L.take i ++ (b, p) :: L.drop i) = (rowsP Pg wd L).take i ++ (hsh Pg wd p, Value.ref b) :: (rowsP Pg wd L).drop i := by
  unfold rowsP
  rw [List.map_append, List.map_cons, List.map_take, List.map_drop]
theorem hshs_put (L : List (Addr × PK)) (i : Nat) (b : Addr) (p : PK) : hshs Pg wd (L.take i ++ (b, p) :: L.drop i) = (hshs Pg wd L).take i ++ hsh Pg wd p :: (hshs Pg wd L).drop i := by
  unfold hshs
  rw [List.map_append, List.map_cons, List.map_take, List.map_drop]
theorem pick_all {α : Type} (l : List α) : ∀ n, n ≤ l.length → (List.range n).filterMap (fun i => l[i]?) = l.take n
  | 0, _ => rfl
  | n + 1, h => by
    rw [List.range_succ, List.filterMap_append, pick_all l n (Nat.le_of_succ_le h), List.take_succ, List.getElem?_eq_getElem h, List.filterMap_cons_some (List.getElem?_eq_getElem h)]
    rfl
theorem fst_getD {i : Nat} {k : Int} {v : Value} (h : es[i]? = some (k, v)) : (es.map (·.1)).getD i 0 = k := by
  have e3 : (es.map (·.1))[i]? = some k := by
    rw [Array.getElem?_map, h]
    rfl
  rw [Array.getD_eq_getD_getElem?, e3]
  rfl
theorem rowsP_get {i : Nat} {q : Addr × PK} (h : L[i]? = some q) : (rowsP Pg wd L)[i]? = some (hsh Pg wd q.2, Value.ref q.1) := by
  unfold rowsP
  exact @map_at _ _ (fun q : Addr × PK => (hsh Pg wd q.2, Value.ref q.1)) L i q h
theorem rowsP_cons (q : Addr × PK) (M : List (Addr × PK)) : rowsP Pg wd (q :: M) = (hsh Pg wd q.2, Value.ref q.1) :: rowsP Pg wd M := by
  unfold rowsP
  rw [List.map_cons]
theorem hshs_cons (q : Addr × PK) (M : List (Addr × PK)) : hshs Pg wd (q :: M) = hsh Pg wd q.2 :: hshs Pg wd M := by
  unfold hshs
  rw [List.map_cons]
/-- the rows in another order -/
theorem ordP {order : Array Nat} (hr : es.toList = rowsP Pg wd L) (hp : order.toList.Perm (List.range L.length)) :
    ∃ M, (order.filterMap (es[·]?)).toList = rowsP Pg wd M ∧ M.Perm L ∧ hshs Pg wd M = order.toList.map fun i => (es.map (·.1)).getD i 0 := by
  have sz : es.size = L.length := by rw [← Array.length_toList, hr, rowsP_len]
  have at_ : ∀ (i : Nat) (q : Addr × PK), L[i]? = some q → es[i]? = some (hsh Pg wd q.2, Value.ref q.1) := fun i q h => by
    rw [← Array.getElem?_toList, hr]
    exact rowsP_get h
  have go : ∀ l : List Nat, (∀ i ∈ l, i < L.length) → l.filterMap (fun i => es[i]?) = rowsP Pg wd (l.filterMap fun i => L[i]?) ∧ hshs Pg wd (l.filterMap fun i => L[i]?) = l.map fun i => (es.map (·.1)).getD i 0 := by
    intro l
    induction l with
    | nil => exact fun _ => ⟨rfl, rfl⟩
    | cons i l ih =>
      intro hl
      obtain ⟨q, hq⟩ : ∃ q, L[i]? = some q := ⟨_, List.getElem?_eq_getElem (hl i List.mem_cons_self)⟩
      obtain ⟨e1, e2⟩ := ih fun j hj => hl j (List.mem_cons_of_mem _ hj)
      constructor
      · rw [List.filterMap_cons_some (at_ i q hq), List.filterMap_cons_some hq, e1, rowsP_cons]
      · rw [List.filterMap_cons_some hq, List.map_cons, ← e2, fst_getD (at_ i q hq), hshs_cons]
  obtain ⟨e1, e2⟩ := go order.toList fun i hi => List.mem_range.mp (hp.mem_iff.mp hi)
  refine ⟨_, ?_, ?_, e2⟩
  · rw [Array.toList_filterMap]
    exact e1
  · have z := hp.filterMap fun i => L[i]?
    rw [pick_all L L.length (Nat.le_refl _), List.take_length] at z
    exact z
/-- the table laid anew -/
theorem relayP {o : Obj} (ho : st.heap.get? a = some o) (hex : o.ExactSet) (hd : o.data = .set es ep tb) (hr : es.toList = rowsP Pg wd L) (hz : tb.place.size = es.size) (hdm : tb.dummies = #[]) (hfl : es.size ≤ tb.mask)
    (nd : (L.map (·.2)).Nodup) (tups : ∀ q ∈ L, IsK Pg wd st.heap q.2 q.1) (led : wd.params.followText "set-order" = true ∨ tb.led = true) (few : L.length < 64) {want M : Nat}
    (hw : SetTable.sizeAbove want - 1 = M) (hM : MaskOk M) (hw2 : SetTable.sizeAbove want ≤ 128) (hn : L.length * 5 < M * 3) {R : Unit → Shared → Prop}
    (hR : ∀ h1 L1 es1 ep1 tb1, Heap.SameBut a st.heap h1 → SetP Pg wd h1 a L1 es1 ep1 tb1 → L1.Perm L → R () { st with heap := h1 }) : wpAny (model Pg wd) Ar (setRelay a want) R Er st := by
  have sl : es.size = L.length := by rw [← Array.length_toList, hr, rowsP_len]
  have fits : tb.fits es.size = true := by
    unfold SetTable.fits SetTable.fill
    rw [hdm, Bool.and_eq_true, beq_iff_eq, decide_eq_true_eq]
    show tb.place.size = es.size ∧ tb.place.size + 0 ≤ tb.mask
    omega
  obtain ⟨tb1, order, e, hp, T, em, el, _, _⟩ := relaid_ok tb (hs := es.map (·.1)) (wanted := want) hw hM (by rw [Array.size_map, sl]; omega)
  rw [Array.size_map, sl] at hp
  obtain ⟨L1, r1, r2, r3⟩ := ordP hr hp
  rw [← r3] at T
  have s2 : (order.filterMap (es[·]?)).size = es.size := by rw [← Array.length_toList, r1, rowsP_len, r2.length_eq, sl]
  rw [setRelay_eq]
  refine wpAny_bind (wpAny_setState_of ho hd fits ?_)
  dsimp only
  refine wp_if_neg (by rw [sizeLine_eq]; omega) ?_
  try refine wpAny_bind (wpAny_pure ?_)
  rw [e]
  dsimp only
  refine wpAny_bind (wp_if_neg (by rw [s2]; simp) ?_)
  try refine wpAny_bind (wpAny_pure ?_)
  refine wpAny_pure ?_
  dsimp only
  refine wpAny_storeSet_of ho hd ?_ (by rw [s2, sl, sizeLine_eq]; omega)
  have sb : Heap.SameBut a st.heap (st.heap.update a (Obj.putSet (order.filterMap (es[·]?)) tb1)) := Heap.SameBut.update ..
  refine hR _ L1 (order.filterMap (es[·]?)) (ep + 1) tb1 sb ⟨⟨_, store_at ho hd, ⟨hex.1, hex.2.1, hex.2.2⟩, rfl⟩, r1, T, (r2.map (·.2)).nodup_iff.mpr nd, fun q hq => (tups q (r2.mem_iff.mp hq)).but ho hd sb, by rw [el]; exact led, by rw [r2.length_eq, em]; exact hn, by rw [r2.length_eq]; exact few⟩ r2
end
end SP

/-! SP7: a pair put into a set. -/
namespace SP
open PySem PySem.Spec PyProof.Rows L2
section
variable {Pg : Program} {wd : World} {Ar : Around} {Er : Value → Shared → Prop} {st : Shared} {a : Addr} {L : List (Addr × PK)} {es : Array (Int × Value)} {ep : Nat} {tb : SetTable}
theorem addP (S : SetP Pg wd st.heap a L es ep tb) {b : Addr} {p : PK} (hb : IsK Pg wd st.heap p b) (hu : Ar.units < cLine) (few : p ∉ L.map (·.2) → L.length + 1 < 64) {R : Bool → Shared → Prop}
    (hR : ∀ r h1 L1 es1 ep1 tb1, Heap.SameBut a st.heap h1 → SetP Pg wd h1 a L1 es1 ep1 tb1 → (p ∈ L.map (·.2) → L1 = L) → (p ∉ L.map (·.2) → L1.Perm ((b, p) :: L)) → R r { st with heap := h1 }) :
    wpAny (model Pg wd) Ar (setAddHashed a (.ref b) (hsh Pg wd p)) R Er st := by
  obtain ⟨ob, hob, hex, hdat⟩ := S.ob
  have sl := S.size
  have rm := S.room
  unfold setAddHashed
  refine wpAny_holding ?_
  rw [show (100000 : Nat) = 99999 + 1 from rfl, setAddHashedIn_succ]
  refine wpAny_bind (wpAny_setState_of hob hdat S.fits ?_)
  dsimp only
  refine wp_if_neg (by simp [byScan, Value.scannable]) ?_
  try refine wpAny_bind (wpAny_pure ?_)
  refine wpAny_bind (findP S hb hu (fun hm => ?_) fun K hm hK1 hK2 => ?_)
  · dsimp only
    exact wpAny_pure (hR false st.heap L es ep tb (Heap.SameBut.refl a st.heap) S (fun _ => rfl) fun z => absurd hm z)
  · dsimp only
    refine wpAny_bind (wpAny_setState_of hob hdat S.fits ?_)
    dsimp only
    obtain ⟨q1, q2, q3, q4, q5, q6, q7, q8, q9⟩ := S.tab.put hK1 hK2
    generalize tb.put (wy tb Pg wd p K) = pt at q1 q3 q4 q5 q6 q7 q8 q9 ⊢
    obtain ⟨t1, i⟩ := pt
    dsimp only at q1 q3 q4 q5 q6 q7 q8 q9 ⊢
    have hin : (SetTable.insertAt es (SetTable.below tb.place (wy tb Pg wd p K)) (hsh Pg wd p, Value.ref b)).toList = rowsP Pg wd (L.take (SetTable.below tb.place (wy tb Pg wd p K)) ++ (b, p) :: L.drop (SetTable.below tb.place (wy tb Pg wd p K))) := by
      rw [SetTable.toList_insertAt, rowsP_put, S.rows]
    rw [← hshs_put (b := b)] at q3
    rw [hshs, List.length_map] at q9
    rw [q1]
    generalize SetTable.below tb.place (wy tb Pg wd p K) = j at q2 q3 hin ⊢
    have pm := put_perm L j (b, p)
    have len1 : (L.take j ++ (b, p) :: L.drop j).length = L.length + 1 := pm.length_eq
    have es1sz : (SetTable.insertAt es j (hsh Pg wd p, Value.ref b)).size = L.length + 1 := by rw [← Array.length_toList, hin, rowsP_len, len1]
    have nd1 : ((L.take j ++ (b, p) :: L.drop j).map (·.2)).Nodup := (pm.map (·.2)).nodup_iff.mpr (List.nodup_cons.mpr ⟨hm, S.once⟩)
    generalize SetTable.insertAt es j (hsh Pg wd p, Value.ref b) = es1 at hin es1sz ⊢
    generalize L.take j ++ (b, p) :: L.drop j = L1 at pm len1 q3 nd1 hin
    have go : ∀ t2 : SetTable, TabOk t2 (hshs Pg wd L1) → t2.mask = tb.mask → t2.led = tb.led → t2.fill = L.length + 1 →
        wpAny (model Pg wd) Ar (do storeSet a es1 t2; if (!false && t2.tooFull) = true then do setRelay a (SetTable.grown (es.size + 1)); pure true else pure true) R Er st := by
      intro t2 T2 m2 l2 f2
      refine wpAny_bind (wpAny_storeSet_of hob hdat ?_ (by rw [es1sz, sizeLine_eq]; have := few hm; omega))
      have sb : Heap.SameBut a st.heap (st.heap.update a (Obj.putSet es1 t2)) := Heap.SameBut.update ..
      have ho1 := store_at (es' := es1) (t' := t2) hob hdat
      generalize st.heap.update a (Obj.putSet es1 t2) = h1 at sb ho1 ⊢
      have tups1 : ∀ q ∈ L1, IsK Pg wd h1 q.2 q.1 := fun q hq => by
        rcases List.mem_cons.mp (pm.mem_iff.mp hq) with e | hq
        · rw [e]
          exact hb.but hob hdat sb
        · exact (S.tups q hq).but hob hdat sb
      have led1 : wd.params.followText "set-order" = true ∨ t2.led = true := by rw [l2]; exact S.led
      have hsz1 : t2.place.size = es1.size := by
        have z := T2.sz
        rw [hshs, List.length_map, len1] at z
        rw [z, es1sz]
      have tf : t2.tooFull = decide ((L.length + 1) * 5 ≥ tb.mask * 3) := by
        unfold SetTable.tooFull
        rw [f2, m2]
      by_cases full : (L.length + 1) * 5 ≥ tb.mask * 3
      · refine wp_if_pos (by rw [tf, decide_eq_true full]; rfl) ?_
        rw [sl]
        have two : (tb.mask = 7 ∧ L.length = 4) ∨ (tb.mask = 31 ∧ L.length = 18) := by
          rcases S.tab.mok with e | e | e
          · left; rw [e] at full rm; exact ⟨e, by omega⟩
          · right; rw [e] at full rm; exact ⟨e, by omega⟩
          · exfalso; have := few hm; rw [e] at full; omega
        have big : ∀ M, SetTable.sizeAbove (SetTable.grown (L.length + 1)) - 1 = M → MaskOk M → SetTable.sizeAbove (SetTable.grown (L.length + 1)) ≤ 128 → (L.length + 1) * 5 < M * 3 → es1.size ≤ t2.mask →
            wpAny (model Pg wd) Ar (do setRelay a (SetTable.grown (L.length + 1)); pure true) R Er { st with heap := h1 } := fun M a1 a2 a3 a4 a5 => by
          refine wpAny_bind (relayP (st := { st with heap := h1 }) ho1 ⟨hex.1, hex.2.1, hex.2.2⟩ rfl hin hsz1 T2.dm a5 nd1 tups1 led1 (by rw [len1]; exact few hm) a1 a2 a3 (by rw [len1]; exact a4) fun h2 L2 es2 ep2 tb2 sb2 S2 pm2 => ?_)
          exact wpAny_pure (hR true h2 L2 es2 ep2 tb2 (sb.trans sb2) S2 (fun z => absurd z hm) fun _ => pm2.trans pm)
        rcases two with ⟨e1, e2⟩ | ⟨e1, e2⟩
        · exact big 31 (by rw [e2, size_20]) (.inr (.inl rfl)) (by rw [e2, size_20]; decide) (by omega) (by rw [es1sz, m2]; omega)
        · exact big 127 (by rw [e2, size_76]) (.inr (.inr rfl)) (by rw [e2, size_76]; decide) (by omega) (by rw [es1sz, m2]; omega)
      · refine wp_if_neg (by rw [tf, decide_eq_false full]; decide) (wpAny_pure (hR true h1 L1 es1 (ep + 1) t2 sb ⟨⟨_, ho1, ⟨hex.1, hex.2.1, hex.2.2⟩, rfl⟩, hin, T2, nd1, tups1, led1, by rw [len1, m2]; omega, by rw [len1]; exact few hm⟩ (fun z => absurd z hm) fun _ => pm))
    by_cases pl : t1.plain = true
    · exact wp_if_pos pl (wpAny_bind (byValueP hb (go { t1 with plain := false } ⟨q3.ris, q3.dm, q3.sz, q3.mok, q3.bd, q3.reach⟩ q4 q5 q9)))
    · exact wp_if_neg pl (wpAny_bind (wpAny_pure (go t1 q3 q4 q5 q9)))
end
end SP

/-! SP8: set(xs), xs a list of pairs of texts. -/
namespace SP
open PySem PySem.Spec PyProof.Rows L2
theorem nd_len {α : Type} [DecidableEq α] : ∀ (l D : List α), l.Nodup → (∀ x ∈ l, x ∈ D) → l.length ≤ D.length
  | [], _, _, _ => Nat.zero_le _
  | x :: l, D, nd, h => by
    have n2 := List.nodup_cons.mp nd
    have hx := h x List.mem_cons_self
    have z := nd_len l (D.erase x) n2.2 fun y hy => (List.mem_erase_of_ne (fun e => n2.1 (by rw [e] at hy; exact hy))).mpr (h y (List.mem_cons_of_mem _ hy))
    rw [List.length_erase_of_mem hx] at z
    have : 0 < D.length := List.length_pos_of_mem hx
    rw [List.length_cons]
    omega
/-- what the set has behind the first i items -/
structure Has (ks : List (Addr × PK)) (i : Nat) (L : List (Addr × PK)) : Prop where
  sub : ∀ q ∈ L, q ∈ ks.take i
  all : ∀ q ∈ ks.take i, q.2 ∈ L.map (·.2)
theorem Has.none (ks : List (Addr × PK)) : Has ks 0 [] := ⟨fun _ h => (nomatch h), fun _ h => by simp at h⟩
theorem Has.old {ks L : List (Addr × PK)} {i : Nat} {x : Addr × PK} (g : Has ks i L) (h : ks[i]? = some x) (hm : x.2 ∈ L.map (·.2)) : Has ks (i + 1) L := by
  refine ⟨fun q hq => ?_, fun q hq => ?_⟩
  · rw [take_next h]
    exact List.mem_append.mpr (.inl (g.sub q hq))
  · rw [take_next h] at hq
    rcases List.mem_append.mp hq with z | z
    · exact g.all q z
    · rw [List.mem_singleton.mp z]
      exact hm
theorem Has.new {ks L M : List (Addr × PK)} {i : Nat} {x : Addr × PK} (g : Has ks i L) (h : ks[i]? = some x) (pm : M.Perm (x :: L)) : Has ks (i + 1) M := by
  refine ⟨fun q hq => ?_, fun q hq => ?_⟩
  · rw [take_next h]
    rcases List.mem_cons.mp (pm.mem_iff.mp hq) with z | z
    · exact List.mem_append.mpr (.inr (List.mem_singleton.mpr z))
    · exact List.mem_append.mpr (.inl (g.sub q z))
  · rw [(pm.map (·.2)).mem_iff, List.map_cons]
    rw [take_next h] at hq
    rcases List.mem_append.mp hq with z | z
    · exact List.mem_cons_of_mem _ (g.all q z)
    · rw [List.mem_singleton.mp z]
      exact List.mem_cons_self
section
variable {Pg : Program} {wd : World} {Ar : Around} {Er : Value → Shared → Prop} {st : Shared}
theorem SetP.kept {h0 h1 : Heap} {a : Addr} {L : List (Addr × PK)} {es : Array (Int × Value)} {ep : Nat} {tb : SetTable} (S : SetP Pg wd h0 a L es ep tb) (ka : ∀ o, h0.get? a = some o → h1.get? a = some o) (kt : ∀ q ∈ L, IsK Pg wd h1 q.2 q.1) : SetP Pg wd h1 a L es ep tb := by
  obtain ⟨o, ho, r⟩ := S.ob
  exact ⟨⟨o, ka o ho, r⟩, S.rows, S.tab, S.once, kt, S.led, S.room, S.few⟩
theorem setP_new {h0 : Heap} {a : Addr} (ho : h0.get? a = some { cls := .type "set", dict := none, data := .set #[] 0 (.fresh 0 0 (!wd.params.followText "set-order")) }) : SetP Pg wd h0 a [] #[] 0 (.fresh 0 0 (!wd.params.followText "set-order")) :=
  ⟨⟨_, ho, ⟨rfl, rfl, rfl⟩, rfl⟩, rfl, ⟨List.Pairwise.nil, rfl, rfl, .inl rfl, fun x hx => (nomatch hx), fun i h j hi => by simp [hshs] at hi⟩, List.nodup_nil, fun q hq => (nomatch hq), by
    show _ ∨ (!wd.params.followText "set-order") = true
    cases wd.params.followText "set-order" <;> simp, by show 0 * 5 < 7 * 3; decide, by show 0 < 64; decide⟩
/-- the loop of set.update -/
theorem loopP {I : Addr} {fp wr : List Addr} {G : Array GenState → Array GenState → Prop} {n : Nat} {Pv : Nat → Value → Prop} {St : Nat → Shared → Prop} {R : Result → Shared → Prop} (W : WalksS Pg wd Ar.in1 I fp wr G n Pv St) (S : Addr) (hSf : S ∉ fp)
    (ks : List (Addr × PK)) (D : List PK) (hn : n = ks.length) (hD : D.length < 64) (hin : ∀ q ∈ ks, q.2 ∈ D) (hval : ∀ i v, Pv i v → ∃ q, ks[i]? = some q ∧ v = .ref q.1) (h0 : Heap) (hk : ∀ q ∈ ks, IsK Pg wd h0 q.2 q.1) (hS0 : h0.get? S = none) (hw0 : ∀ b ∈ wr, h0.get? b = none) (hu : Ar.in1.units < cLine) :
    ∀ (k i : Nat) (st : Shared), n - i = k → i ≤ n → St i st → (∀ b o, h0.get? b = some o → st.heap.get? b = some o) → (∃ L es ep tb, SetP Pg wd st.heap S L es ep tb ∧ Has ks i L) →
      (∀ s1 L es ep tb, Moved (S :: wr) G st s1 → SetP Pg wd s1.heap S L es ep tb → Has ks n L → (∀ b o, h0.get? b = some o → s1.heap.get? b = some o) → R (.ok (.ret .none)) s1) →
      codeAny (model Pg wd) Ar (.builtin "set.update.loop" ⟨[.ref S, .ref I], []⟩) R st := by
  have hSw : S ∉ wr := fun z => hSf (W.sub _ z)
  have wide : ∀ b ∈ wr, b ∈ S :: wr := fun b hb => List.mem_cons_of_mem _ hb
  have still : ∀ {s1 s2 : Shared}, Moved wr G s1 s2 → (∀ b o, h0.get? b = some o → s1.heap.get? b = some o) → ∀ b o, h0.get? b = some o → s2.heap.get? b = some o := fun hm k b o e =>
    hm.heap b o (fun hb => by rw [hw0 b hb] at e; cases e) (k b o e)
  intro k
  induction k with
  | zero =>
    intro i st hki hi hst kp ⟨L, es, ep, tb, hS, g⟩ hR
    obtain rfl : i = n := by omega
    refine codeAny_builtin F.entry_set_update_loop ?_
    rw [Around.under_plainId F.plain_set_update_loop _]
    show wpAny _ Ar.in1 (pyNext (.ref I) >>= _) _ _ st
    refine wpAny_bind (W.done st _ _ hst fun s1 hm => ?_)
    show wpAny _ Ar.in1 (ret Value.none) _ _ s1
    have kp1 := still hm kp
    exact wpAny_pure (hR s1 L es ep tb (hm.mono wide) (hS.kept (fun o e => hm.heap S o hSw e) fun q hq => (hk q (List.mem_of_mem_take (g.sub q hq))).kept kp1) g kp1)
  | succ k ih =>
    intro i st hki hi hst kp ⟨L, es, ep, tb, hS, g⟩ hR
    have hlt : i < n := by omega
    refine codeAny_builtin F.entry_set_update_loop ?_
    rw [Around.under_plainId F.plain_set_update_loop _]
    show wpAny _ Ar.in1 (pyNext (.ref I) >>= _) _ _ st
    refine wpAny_bind (W.item i st _ _ hlt hst fun v s1 hP hst1 hm => ?_)
    obtain ⟨x, hx, rfl⟩ := hval i v hP
    have kp1 := still hm kp
    have hS1 : SetP Pg wd s1.heap S L es ep tb := hS.kept (fun o e => hm.heap S o hSw e) fun q hq => (hk q (List.mem_of_mem_take (g.sub q hq))).kept kp1
    have hxm := List.mem_of_getElem? hx
    have xT : IsK Pg wd s1.heap x.2 x.1 := (hk x hxm).kept kp1
    show wpAny _ Ar.in1 (holding [Value.ref x.1] (setAdd S (.ref x.1)) >>= _) _ _ s1
    refine wpAny_bind (wpAny_holding ?_)
    unfold setAdd
    refine wpAny_holding (wpAny_bind (wpAny_pyHash_tuple hu xT ?_))
    rw [hsh_eq]
    refine addP (st := { s1 with toks := s1.toks + ((keyP x.2).length + 1) }) hS1 xT hu (fun hm => ?_) fun b h1 L1 es1 ep1 tb1 sb S1 c1 c2 => ?_
    · have z := nd_len (x.2 :: L.map (·.2)) D (List.nodup_cons.mpr ⟨hm, hS.once⟩) fun y hy => by
        rcases List.mem_cons.mp hy with e | hy
        · rw [e]
          exact hin x hxm
        · obtain ⟨q, hq, rfl⟩ := List.mem_map.mp hy
          exact hin q (List.mem_of_mem_take (g.sub q hq))
      rw [List.length_cons, List.length_map] at z
      omega
    have g1 : Has ks (i + 1) L1 := by
      rcases Classical.em (x.2 ∈ L.map (·.2)) with c | c
      · rw [c1 c]
        exact g.old hx c
      · exact g.new hx (c2 c)
    have kp2 : ∀ b o, h0.get? b = some o → h1.get? b = some o := fun b o e => (sb.2 b (fun z => by rw [z, hS0] at e; cases e)).trans (kp1 b o e)
    refine wpAny_pure ⟨plainId_quiet F.plain_set_update_loop _, ih (i + 1) _ (by omega) hlt (W.frame _ s1 _ _ hst1 (Nat.le_add_right _ _) fun b hb o e => ?_) kp2 ⟨L1, es1, ep1, tb1, S1, g1⟩ fun s2 L2 es2 ep2 tb2 hm2 S2 g2 kp3 => ?_⟩
    · rw [sb.2 b (fun z : b = S => hSf (by rw [← z]; exact hb))]
      exact e
    · refine hR s2 L2 es2 ep2 tb2 (Moved.trans W.gtrans ((hm.mono wide).then_heap (Nat.le_add_right _ _) fun b o hb e => ?_) hm2) S2 g2 kp3
      rw [sb.2 b (fun z : b = S => hb (by rw [z]; exact List.mem_cons_self))]
      exact e
end
end SP

/-! SP9: set(xs), sorted(s) of pairs of texts. -/
namespace SP
open PySem PySem.Spec PyProof.Rows L2
abbrev newSet (wd : World) : Obj := { cls := .type "set", dict := none, data := .set #[] 0 (.fresh 0 0 (!wd.params.followText "set-order")) }
section
variable {Pg : Program} {wd : World} {Ar : Around} {Er : Value → Shared → Prop} {st : Shared}
theorem callSetP {l : Addr} {items : Array Value} (ks : List (Addr × PK)) (D : List PK) {R : Value → Shared → Prop} (hh : Ar.handled = none) (hl : st.heap.IsList l items) (hit : items.toList = ks.map fun q => Value.ref q.1)
    (hk : ∀ q ∈ ks, IsK Pg wd st.heap q.2 q.1) (hD : D.length < 64) (hin : ∀ q ∈ ks, q.2 ∈ D) (hu : Ar.units + 3 < cLine)
    (h : ∀ (h1 : Heap) (tk : Nat) L es ep tb, SetP Pg wd h1 st.heap.objs.size L es ep tb → Has ks ks.length L → (∀ b o, st.heap.get? b = some o → h1.get? b = some o) → R (.ref st.heap.objs.size) { st with heap := h1, toks := tk }) :
    wpAny (model Pg wd) Ar (call (.type "set") [.ref l]) R Er st := by
  have isz : items.size = ks.length := by rw [← Array.length_toList, hit, List.length_map]
  obtain ⟨c, tl, hmro⟩ := F.called_set.mro
  have m1 := F.called_set.made
  have m2 := F.called_set.sub
  refine wpAny_call (codeAny_of_tree ?_)
  show wpAny _ _ (callAny (.type "set") _) _ _ _
  refine wpAny_pure ⟨Code.quiet_builtin _ (by decide +kernel), codeAny_builtin F.entry_type_call ?_⟩
  rw [Around.under_plain (weight_type_call_type "set" [.ref l] []) rfl]
  have m3 := F.called_set.notType
  have m4 := F.called_set.canCreate
  have m5 := F.typeCall_set_1 (.ref l)
  repeat (any_goals first | assumption | wp_step)
  refine codeAny_mono (code_set_led1 (.ref l) (E := Er) (Q₁ := fun ob s1 => ob = .ref st.heap.objs.size ∧ s1 = { st with heap := st.heap.push (newSet wd) }) ⟨rfl, rfl⟩) fun r s1 hr => ?_
  cases r with
  | error e => exact hr
  | ok fl =>
    cases fl with
    | ret ob =>
      obtain ⟨rfl, rfl⟩ := hr
      have hS : (st.heap.push (newSet wd)).get? st.heap.objs.size = some (newSet wd) := Heap.get?_push_size _ rfl
      have hT : Shared.TypeIs { st with heap := st.heap.push (newSet wd) } (.ref st.heap.objs.size) "set" := ⟨_, hS, rfl⟩
      have m6 := F.called_set.init.lookup
      have m7 := F.called_set.init.bind (.ref st.heap.objs.size)
      repeat (any_goals first | assumption | wp_step)
      refine codeAny_mono (codeAny_call_builtin (R := wants (fun r s2 => r = .none ∧ ∃ h1 tk L es ep tb, s2 = { st with heap := h1, toks := tk } ∧ SetP Pg wd h1 st.heap.objs.size L es ep tb ∧ Has ks ks.length L ∧
          (∀ b o, st.heap.get? b = some o → h1.get? b = some o)) Er) F.called_set.init.plain F.entry_set_init (check_set_init_1 hT ?_)) fun r2 s2 hr2 => ?_
      · obtain ⟨⟨oc, od, odat, osl⟩, hol, hc, nl, hd⟩ := hl
        simp only at hc hd
        subst hc hd
        have hol1 : (st.heap.push (newSet wd)).get? l = some { cls := .type "list", dict := od, data := .seq items nl, slots := osl } := Heap.get?_push_of_some _ hol
        have n1 := F.sub_list_set
        have n2 := F.sub_list_frozenset
        have n3 : (Value.type "list" == Value.type "dict") = false := by decide
        have hl1 : (st.heap.push (newSet wd)).IsList l items := ⟨_, hol1, rfl, nl, rfl⟩
        unfold Builtin.«set.__init__» noKeywords Builtin.Frozenset.updateFrom
        generalize hPI : pyIter = PI
        wp_walk
        subst hPI
        refine wpAny_pyIter_list hl1 (wpAny_bind (wpAny_runValue ?_))
        have lt : l < st.heap.objs.size := Heap.lt_size hol
        have sz1 : (st.heap.push (newSet wd)).objs.size = st.heap.objs.size + 1 := Heap.size_push ..
        have neI : l ≠ (st.heap.push (newSet wd)).objs.size := by rw [sz1]; exact Nat.ne_of_lt (Nat.lt_succ_of_lt lt)
        have nS : st.heap.objs.size ∉ [(st.heap.push (newSet wd)).objs.size, l] := by
          rw [sz1]
          simp only [List.mem_cons, List.not_mem_nil, or_false, not_or]
          exact ⟨Nat.ne_of_lt (Nat.lt_succ_self _), Nat.ne_of_gt lt⟩
        have hval : ∀ (i : Nat) (v : Value), items[i]? = some v → ∃ q, ks[i]? = some q ∧ v = .ref q.1 := fun i v hv => by
          have z : items.toList[i]? = some v := by rw [Array.getElem?_toList]; exact hv
          rw [hit, List.getElem?_map] at z
          cases hq : ks[i]? with
          | none => rw [hq] at z; cases z
          | some q =>
            rw [hq] at z
            exact ⟨q, rfl, (Option.some.inj z).symm⟩
        have gone : ∀ b, st.heap.objs.size ≤ b → st.heap.get? b = none := fun b hb => Heap.get?_none_of_le hb
        have start : SetP Pg wd ((st.heap.push (newSet wd)).push { cls := .type "list_iterator", data := .fields #[.ref l, .int 0 0] }) st.heap.objs.size [] #[] 0 (.fresh 0 0 (!wd.params.followText "set-order")) := setP_new (Heap.get?_push_of_some _ hS)
        refine loopP ((Walks.list (by simp [hh]) _ l neI items).toS) st.heap.objs.size nS ks D isz hD hin hval st.heap hk (gone _ (Nat.le_refl _)) (fun b hb => gone b (by rw [List.mem_singleton.mp hb, sz1]; exact Nat.le_succ _)) hu (items.size - 0) 0 _ (by omega) (Nat.zero_le _)
          ⟨⟨_, Heap.get?_push_size _ rfl, rfl, rfl⟩, (hl1.push _)⟩ (fun b o e => Heap.get?_push_of_some _ (Heap.get?_push_of_some _ e)) ⟨[], #[], 0, _, start, Has.none ks⟩ ?_
        intro s3 L es ep tb hm S3 g3 kp
        obtain ⟨h3, g', d', tk', os'⟩ := s3
        have eg : g' = st.gens := hm.gens
        have ed : d' = st.drawn := hm.drawn
        have eo : os' = st.os := hm.os
        subst eg ed eo
        rw [isz] at g3
        show wpAny _ _ _ _ _ _
        refine wpAny_pure ?_
        show wpAny _ _ (ret Value.none) _ _ _
        exact wpAny_pure ⟨rfl, h3, tk', L, es, ep, tb, rfl, S3, g3, kp⟩
      · cases r2 with
        | error e => exact hr2
        | ok f2 =>
          cases f2 with
          | ret r =>
            obtain ⟨rfl, h1, tk, L, es, ep, tb, rfl, S1, g1, k1⟩ := hr2
            repeat (any_goals first | assumption | wp_step)
            exact h _ _ _ _ _ _ S1 g1 k1
          | _ => exact hr2.elim
    | _ => exact hr.elim
end
end SP

/-! SPa: the rules. -/
namespace SP
open PySem PySem.Spec PyProof.Rows L2
/-- the set at a, without its tuples -/
structure SetQ (Pg : Program) (wd : World) (hp : Heap) (a : Addr) (L : List (Addr × PK)) : Prop where
  ex : ∃ (es : Array (Int × Value)) (ep : Nat) (tb : SetTable), (∃ o, hp.get? a = some o ∧ o.ExactSet ∧ o.data = .set es ep tb) ∧ es.toList = rowsP Pg wd L ∧ TabOk tb (hshs Pg wd L) ∧ (L.map (·.2)).Nodup ∧
    (wd.params.followText "set-order" = true ∨ tb.led = true) ∧ L.length * 5 < tb.mask * 3 ∧ L.length < 64
def SetO (Pg : Program) (wd : World) (a : Addr) (L : List (Addr × PK)) : HO := .ext fun h => SetQ Pg wd h a L
theorem setO_ok {Pg : Program} {wd : World} {H : Hp} {hp : Heap} {a : Addr} {L : List (Addr × PK)} {es : Array (Int × Value)} {ep : Nat} {tb : SetTable} (S : SetP Pg wd hp a L es ep tb) : ObjOk Pg wd H hp a (SetO Pg wd a L) := by
  obtain ⟨o, ho, r⟩ := S.ob
  refine ⟨⟨es, ep, tb, ⟨o, ho, r⟩, S.rows, S.tab, S.once, S.led, S.room, S.few⟩, ⟨o, ho⟩, fun h1 h2 z k => ?_⟩
  obtain ⟨es', ep', tb', ⟨o', ho', r'⟩, q⟩ := SetQ.ex z
  exact ⟨es', ep', tb', ⟨o', k o' ho', r'⟩, q⟩
section
variable {X : Cx}
theorem inv_isK {pins : List (Addr × Obj)} {σ : L2.St} {H : Hp} {s : Shared} (I : Inv X pins σ H s) {a : Addr} {p : PK} (h : H a = some (tupP p)) : IsK X.prog X.w s.heap p a := isK_of (isP_at I h)
def rSetP (K : PySem.W.Frag) (Pg : Program) (wd : World) : List V → Hp → VK → Prop := fun xs H Q => ∃ (l : Addr) (ks : List (Addr × PK)) (D : List PK), xs = [.ref l] ∧ SqL K H l (ks.map fun q => V.ref q.1) ∧ (∀ q ∈ ks, H q.1 = some (tupP q.2)) ∧ D.length < 64 ∧ (∀ q ∈ ks, q.2 ∈ D) ∧
  ∀ a L, H a = none → (∀ q ∈ L, q ∈ ks) → (∀ q ∈ ks, q.2 ∈ L.map (·.2)) → (L.map (·.2)).Nodup → Q (.ref a) (upd H a (SetO Pg wd a L))
theorem refsOf : ∀ {ks : List (Addr × PK)} {us : List Value}, Vals (ks.map fun q => V.ref q.1) us → us = ks.map fun q => Value.ref q.1
  | [], _, .nil => rfl
  | q :: ks, _, .cons r t => by
    cases r
    rw [List.map_cons, refsOf t]
theorem cr_setP (hc : X.calm = true) (hu : X.A.units + 64 < cLine) : CallR X (.type "set") (rSetP X.K X.prog X.w) := by
  intro pins s σ H xs us Q I r h
  obtain ⟨l, ks, D, ex, hl, hk, hD, hin, q⟩ := h
  subst ex
  rw [Vals.ref1 r]
  obtain ⟨its, rv, pl, hz⟩ := I.list hl
  have hn : H s.heap.objs.size = none := I.hok.fresh (Nat.le_refl _)
  refine callSetP (Pg := X.prog) (wd := X.w) ks D (I.ok.hd hc) pl.isList (by rw [refsOf rv]) (fun p hp => inv_isK I (hk p hp)) hD hin (by omega) fun h1 tk L es ep tb S g k => ?_
  refine ⟨.ref s.heap.objs.size, upd H s.heap.objs.size (SetO X.prog X.w s.heap.objs.size L), I.laid (t' := tk) k (Nat.le_refl _) (setO_ok S), rfl, q _ L hn (fun p hp => List.mem_of_mem_take (g.sub p hp)) (fun p hp => g.all p (by rw [List.take_length]; exact hp)) S.once⟩
def rSortS (Pg : Program) (wd : World) : List V → Hp → VK → Prop := fun xs H Q => ∃ (a : Addr) (L : List (Addr × PK)), xs = [.ref a] ∧ H a = some (SetO Pg wd a L) ∧ (∀ q ∈ L, H q.1 = some (tupP q.2)) ∧ OutP H (L.map (·.2)) Q
theorem cr_sortS (hc : X.calm = true) : CallR X (.builtin "sorted") (rSortS X.prog X.w) := by
  intro pins s σ H xs us Q I r h
  obtain ⟨a, L, ex, ha, hk, q⟩ := h
  subst ex
  rw [Vals.ref1 r]
  have z : SetQ X.prog X.w s.heap a L := (I.hok a _ ha).1
  obtain ⟨es, ep, tb, ob, rows, tab, once, led, room, few⟩ := z.ex
  have S : SetP X.prog X.w s.heap a L es ep tb := ⟨ob, rows, tab, once, fun p hp => inv_isK I (hk p hp), led, room, few⟩
  obtain ⟨o, ho, hex, hd⟩ := ob
  have sz := S.size
  refine Calls.call_function_entry kind_sorted plain_sorted entry_sorted (args_sorted1 _) ?_
  unfold Builtin.«sorted»
  refine wpAny_bind (m := checkCount "sorted" 1 1 _) (wpAny_pure ?_)
  refine wpAny_bind (collect_set (A := X.A.in1) (I.ok.hd hc) ⟨o, ho, hex.1, hd⟩ S.fits (by unfold scanBound; omega) tab.ris led fun s1 vs k1 hz g1 o1 pm => ?_)
  have I1 : Inv X pins σ H { s with heap := s1.heap, gens := s1.gens, drawn := s1.drawn, toks := s1.toks } := I.call (ch := []) (Un.kept k1) (I.hok.kept k1) (by rw [g1]; exact I.bare) (fun _ z => nomatch z)
  have e : s1 = { s with heap := s1.heap, gens := s1.gens, drawn := s1.drawn, toks := s1.toks } := by
    cases s1
    cases s
    cases o1
    rfl
  rw [e]
  have hvs : vs.Perm (L.map fun x => Value.ref x.1) := by
    refine pm.trans (List.Perm.of_eq ?_)
    rw [rows, rowsP, List.map_map]
    rfl
  exact endP (A := X.A.in1) I1 few once hk (List.Perm.refl _) q hvs _ fun v s hv => ⟨_, rfl, hv⟩
end
end SP

/-! KD8: inner_of, note_names. -/
namespace KD
open PySem PySem.Spec PyProof.Rows L2 LamX NdefX LamF KM
/-- no has no parts -/
def nz : Nat → T → Prop
  | 0, _ => False
  | h + 1, .mad _ ps => ∀ p ∈ ps, nz h p
  | h + 1, .bin _ _ a => nz h a
  | h + 1, .nod w ps => (w = .no → ps = []) ∧ ∀ p ∈ ps, nz h p
  | _ + 1, _ => True
theorem nz_le : ∀ {h h' : Nat} {t : T}, nz h t → h ≤ h' → nz h' t
  | 0, _, _, x, _ => x.elim
  | h + 1, 0, _, _, l => absurd l (by omega)
  | h + 1, h' + 1, .nam x k, q, _ => trivial
  | h + 1, h' + 1, .bnd n, q, _ => trivial
  | h + 1, h' + 1, .var n, q, _ => trivial
  | h + 1, h' + 1, .mad f ps, q, l => fun p hp => nz_le (q p hp) (by omega)
  | h + 1, h' + 1, .bin w k a, q, l => nz_le (h := h) (h' := h') q (by omega)
  | h + 1, h' + 1, .bnn w k n a, q, l => trivial
  | h + 1, h' + 1, .nod w ps, q, l => ⟨q.1, fun p hp => nz_le (q.2 p hp) (by omega)⟩
theorem nz_open {c : Nat} {term : T} (ht : nz c term) (hc : 1 ≤ c) : ∀ {h j : Nat} {t : T}, nz h t → nz (h + c) (chg (gOpen term) h j t)
  | 0, _, _, z => z.elim
  | h + 1, j, .nam y i, q => by rw [show h + 1 + c = (h + c) + 1 by omega]; trivial
  | h + 1, j, .bnd n, q => by
    show nz _ (if n = j then term else T.bnd n)
    by_cases e : n = j
    · rw [if_pos e]
      exact nz_le ht (by omega)
    · rw [if_neg e, show h + 1 + c = (h + c) + 1 by omega]
      trivial
  | h + 1, j, .var n, q => by rw [show h + 1 + c = (h + c) + 1 by omega]; trivial
  | h + 1, j, .mad f ps, q => by
    rw [show h + 1 + c = (h + c) + 1 by omega]
    intro p hp
    obtain ⟨p', hp', e⟩ := List.mem_map.mp hp
    rw [← e]
    exact nz_open ht hc (q p' hp')
  | h + 1, j, .bin w kk a, q => by
    rw [show h + 1 + c = (h + c) + 1 by omega]
    exact nz_open ht hc (h := h) (show nz h a from q)
  | h + 1, j, .bnn _ _ _ _, q => by rw [show h + 1 + c = (h + c) + 1 by omega]; trivial
  | h + 1, j, .nod w ps, q => by
    rw [show h + 1 + c = (h + c) + 1 by omega]
    refine ⟨fun e => ?_, fun p hp => ?_⟩
    · rw [q.1 e]
      rfl
    · obtain ⟨p', hp', e⟩ := List.mem_map.mp hp
      rw [← e]
      exact nz_open ht hc (q.2 p' hp')
/-- the parts straight within -/
def kids : T → List T
  | .mad _ ps => ps
  | .bin _ _ a => [a]
  | .nod _ ps => ps
  | _ => []
theorem fr_kids {h : Nat} {t : T} (hn : ∀ x k, t ≠ .nam x k) : fr (h + 1) t = (kids t).flatMap (fr h) := by
  cases t with
  | nam x k => exact absurd rfl (hn x k)
  | bin w k a => show fr h a = [a].flatMap (fr h); simp
  | mad f ps => rfl
  | nod w ps => rfl
  | bnd n => rfl
  | var n => rfl
  | bnn w k n a => rfl
def spInner (h : Nat) : Sp := fun vs H Q _ => ∃ (v : V) (t : T), vs = [v] ∧ At H v t ∧ (∃ ns ks m, ok ns ks h m t) ∧ nz h t ∧ ∀ r H' ys, Same H H' → H' r = some (.tup ys) → AtL H' ys (kids t) → Q (.ref r) H'
abbrev sIn : Stmt := top 1
theorem scIn : FnScope ["thing", "word"] ["thing"] (defScope sIn) := ⟨rfl, rfl, rfl, by decide +kernel, rfl, by decide +kernel, by decide +kernel⟩
theorem inW3 : inV (.str "name") [.str "name", .str "bound", .str "no"] = true ∧ inV (.str "bound") [.str "name", .str "bound", .str "no"] = true ∧ inV (.str "made") [.str "name", .str "bound", .str "no"] = false ∧ (∀ w : Bw, inV (.str w.s) [.str "name", .str "bound", .str "no"] = false) ∧
    (∀ w : Nw, inV (.str w.s) [.str "name", .str "bound", .str "no"] = decide (w = .no)) :=
  ⟨by decide +kernel, by decide +kernel, by decide +kernel, fun w => by cases w <;> decide +kernel, fun w => by cases w <;> decide +kernel⟩
theorem cut2 (x y : V) (xs : List V) : ¬ HT.sIx (x :: y :: xs).length 0 (some 2) = 0 ∧ cutV (x :: y :: xs) (some 2) none = xs := by
  have e : HT.sIx (x :: y :: xs).length 0 (some 2) = 2 := by
    have q := HT.sIx_nat (x :: y :: xs).length 0 2
    rw [List.length_cons, List.length_cons, Nat.min_eq_left (by omega)] at q
    exact q
  refine ⟨by rw [e]; decide, ?_⟩
  unfold cutV
  rw [e, HT.sIx_none, List.length_cons, List.length_cons, show xs.length + 1 + 1 - 2 = xs.length by omega]
  show xs.take xs.length = xs
  exact List.take_length
theorem ok_kids {ns ks : List Str} {h m : Nat} {t : T} (q : ok ns ks (h + 1) m t) : ∀ p ∈ kids t, ∃ m', ok ns ks h m' p := fun p hp => by
  cases t with
  | nam x k => exact nomatch (show p ∈ ([] : List T) from hp)
  | bnd n => exact nomatch (show p ∈ ([] : List T) from hp)
  | var n => exact q.elim
  | mad f ps => exact ⟨m, q.2 p hp⟩
  | bin w k a => rw [List.mem_singleton.mp (show p ∈ [a] from hp)]; exact ⟨m + 1, q.2⟩
  | bnn w k n a => exact q.elim
  | nod w ps => exact ⟨m, q.2 p hp⟩
theorem nz_kids {h : Nat} {t : T} (q : nz (h + 1) t) : ∀ p ∈ kids t, nz h p := fun p hp => by
  cases t with
  | nam x k => exact nomatch (show p ∈ ([] : List T) from hp)
  | bnd n => exact nomatch (show p ∈ ([] : List T) from hp)
  | var n => exact nomatch (show p ∈ ([] : List T) from hp)
  | mad f ps => exact q p hp
  | bin w k a => rw [List.mem_singleton.mp (show p ∈ [a] from hp)]; exact q
  | bnn w k n a => exact nomatch (show p ∈ ([] : List T) from hp)
  | nod w ps => exact q.2 p hp
section
variable {P : Program} {w : World} {K : PySem.W.Frag} {mg : Str → Option Value} {base : Heap} {f fi : Addr} {fd fdi : FuncData}
theorem ok_inner (h : Nat) (F : Fun K "inner_of" "inner_of" sIn f fd) : FnOk P w K mg base CX0 1 f fd ["thing"] (spInner h) := by
  refine F.ok scIn (fun vs H Q E h => ?_) (fun cdv A0 outer s H vs Q E hr hh => ?_)
  · obtain ⟨v, t, rfl, _⟩ := h
    rfl
  obtain ⟨v, t, rfl, hA, ⟨ns, ks, m, hok⟩, hnz, k⟩ := hh
  refine ⟨_, pss_cons (ps_set (i := 1) scIn.nd rfl (Or.inl rfl) (pe_ix ix_tup (pv 0) pe_int (fun _ _ => rfl)))
    (pss_cons (ps_if (pt_cmpR op_eq (pv 1) pe_str (nomark _)) (pss_one (ps_ret (pe_ix ix_tup (pv 0) pe_int (fun _ _ => rfl)))) pss_nil)
    (pss_cons (ps_if (pt_cmpR op_in_seq (pv 1) (pe_tup (pa_cons pe_str (pa_cons pe_str (pa_cons pe_str pa_nil)))) (by rfl)) (pss_one (ps_ret (pe_tup pa_nil))) pss_nil)
    (pss_cons (ps_if (pt_cmpR op_in_seq (pv 1) (pe_tup (pa_cons pe_str (pa_cons pe_str pa_nil))) (by rfl)) (pss_one (ps_ret (pe_slice sl_tupA (pv 0) (po_some pe_int) po_none))) pss_nil)
    (pss_one (ps_ret (pe_slice sl_tupA (pv 0) (po_some pe_int) po_none)))))), ?_⟩
  have three : (3 : Nat) ≤ sizeLine := by decide
  have two : (2 : Nat) ≤ sizeLine := by decide
  cases h with
  | zero => exact hok.elim
  | succ h =>
  cases hA with
  | nam e =>
    refine ⟨_, rfl, _, _, _, _, rfl, rfl, SqT.of e, rfl, ?_⟩
    refine ⟨_, rfl, rfl, false, congrArg V.bl inO.1.1, iteF ?_⟩
    refine ⟨_, rfl, three, fun p hp => ⟨p, _, rfl, .inr (SqT.of upd_same), rfl, rfl, true, congrArg V.bl inW3.1, iteT ?_⟩⟩
    exact ⟨Nat.zero_le _, fun r hr => k r _ [] ((Same.upd hp).trans (Same.upd hr)) upd_same .nil⟩
  | bnd e =>
    refine ⟨_, rfl, _, _, _, _, rfl, rfl, SqT.of e, rfl, ?_⟩
    refine ⟨_, rfl, rfl, false, congrArg V.bl inO.2.1.1, iteF ?_⟩
    refine ⟨_, rfl, three, fun p hp => ⟨p, _, rfl, .inr (SqT.of upd_same), rfl, rfl, true, congrArg V.bl inW3.2.1, iteT ?_⟩⟩
    exact ⟨Nat.zero_le _, fun r hr => k r _ [] ((Same.upd hp).trans (Same.upd hr)) upd_same .nil⟩
  | var e => exact hok.elim
  | mad e e2 l =>
    refine ⟨_, rfl, _, _, _, _, rfl, rfl, SqT.of e, rfl, ?_⟩
    refine ⟨_, rfl, rfl, true, congrArg V.bl (decide_eq_true rfl), iteT ?_⟩
    exact ⟨_, rfl, _, _, _, _, rfl, rfl, SqT.of e, rfl, k _ _ _ (Same.refl H) e2 l⟩
  | bin e l =>
    rename_i a0 w0 k0 v0 t0
    refine ⟨_, rfl, _, _, _, _, rfl, rfl, SqT.of e, rfl, ?_⟩
    refine ⟨_, rfl, rfl, false, congrArg V.bl (inO.2.2.1 w0).1, iteF ?_⟩
    refine ⟨_, rfl, three, fun p hp => ⟨p, _, rfl, .inr (SqT.of upd_same), rfl, rfl, false, congrArg V.bl (inW3.2.2.2.1 w0), iteF ?_⟩⟩
    have s1 : Same H (upd H p (.tup [.str "name", .str "bound", .str "no"])) := Same.upd hp
    generalize upd H p (.tup [.str "name", .str "bound", .str "no"]) = H1 at s1 ⊢
    refine ⟨_, rfl, two, fun p hp => ⟨p, _, rfl, .inr (SqT.of upd_same), rfl, rfl, true, congrArg V.bl (inW2.2.2.2.1 w0), iteT ?_⟩⟩
    have s2 : Same H1 (upd H1 p (.tup [.str "all", .str "some"])) := Same.upd hp
    generalize upd H1 p (.tup [.str "all", .str "some"]) = H2 at s2 ⊢
    have s12 := s1.trans s2
    refine ⟨_, rfl, 2, rfl, _, _, rfl, SqT.of (s12 _ _ e), fun z => absurd z.1 (cut2 _ _ _).1, fun _ r hr => ?_⟩
    rw [(cut2 _ _ _).2]
    have s3 := s12.trans (Same.upd (o := .tup [v0]) hr)
    exact k r _ [v0] s3 upd_same (.cons (l.mono (.same s3)) .nil)
  | bnn e l => exact hok.elim
  | nod e l =>
    rename_i a0 w0 vs0 ps0
    refine ⟨_, rfl, _, _, _, _, rfl, rfl, SqT.of e, atI_nat (j := 0) rfl, ?_⟩
    refine ⟨_, rfl, rfl, false, congrArg V.bl (inO.2.2.2 w0).1, iteF ?_⟩
    refine ⟨_, rfl, three, fun p hp => ⟨p, _, rfl, .inr (SqT.of upd_same), rfl, rfl, _, congrArg V.bl (inW3.2.2.2.2 w0), ?_⟩⟩
    have s1 : Same H (upd H p (.tup [.str "name", .str "bound", .str "no"])) := Same.upd hp
    generalize upd H p (.tup [.str "name", .str "bound", .str "no"]) = H1 at s1 ⊢
    by_cases hw : w0 = .no
    · rw [decide_eq_true hw]
      refine iteT ⟨Nat.zero_le _, fun r hr => k r _ [] (s1.trans (Same.upd hr)) upd_same ?_⟩
      show AtL _ [] ps0
      rw [hnz.1 hw]
      exact .nil
    · rw [decide_eq_false hw]
      refine iteF ?_
      refine ⟨_, rfl, two, fun p hp => ⟨p, _, rfl, .inr (SqT.of upd_same), rfl, rfl, false, congrArg V.bl (inW2.2.2.2.2.1 w0), iteF ?_⟩⟩
      have s2 : Same H1 (upd H1 p (.tup [.str "all", .str "some"])) := Same.upd hp
      generalize upd H1 p (.tup [.str "all", .str "some"]) = H2 at s2 ⊢
      have s12 := s1.trans s2
      refine ⟨_, rfl, 1, rfl, _, _, rfl, SqT.of (s12 _ _ e), fun z => absurd z.1 (cut1 _ _).1, fun _ r hr => ?_⟩
      rw [(cut1 _ _).2]
      have s3 := s12.trans (Same.upd (o := .tup vs0) hr)
      exact k r _ vs0 s3 upd_same (l.mono (.same s3))
/-! ### note_names -/
def addAll (ks l : List (Str × Str)) : List (Str × Str) := l.foldl (fun acc p => if p ∈ acc then acc else acc ++ [p]) ks
theorem addAll_app (ks l m : List (Str × Str)) : addAll ks (l ++ m) = addAll (addAll ks l) m := List.foldl_append
theorem addAll_len (ks l : List (Str × Str)) : (addAll ks l).length ≤ ks.length + l.length := by
  induction l generalizing ks with
  | nil => exact Nat.le_refl _
  | cons p l ih =>
    show (addAll (if p ∈ ks then ks else ks ++ [p]) l).length ≤ _
    have := ih (if p ∈ ks then ks else ks ++ [p])
    rw [List.length_cons]
    split at this
    · rename_i e; rw [if_pos e]; omega
    · rename_i e; rw [if_neg e]; rw [List.length_append, List.length_singleton] at this; omega
def ButS (d : Addr) (H H' : Hp) : Prop := ∀ b o, b ≠ d → H b = some o → H' b = some o
theorem ButS.tup {d : Addr} {H H' : Hp} {kvs : List (List L2.Key × V)} (e : ButS d H H') (hd : H d = some (.dT kvs)) : TupS H H' := fun b xs h => e b _ (ne_of h hd (by intro z; cases z)) h
theorem putK_keys {kvs : List (List L2.Key × V)} {ks : List (Str × Str)} (h : kvs.map (·.1) = ks.map SP.keyP) (p : Str × Str) (v : V) : (putK kvs (SP.keyP p) v).map (·.1) = (if p ∈ ks then ks else ks ++ [p]).map SP.keyP := by
  have mem : (SP.keyP p ∈ kvs.map (·.1)) ↔ p ∈ ks := by
    rw [h]
    exact ⟨fun z => by obtain ⟨q, hq, e⟩ := List.mem_map.mp z; rw [← SP.keyP_inj e]; exact hq, fun z => List.mem_map_of_mem z⟩
  by_cases e : p ∈ ks
  · rw [if_pos e]
    unfold putK
    have : (kvs.any fun kv => decide (kv.1 = SP.keyP p)) = true := by
      rw [List.any_eq_true]
      obtain ⟨kv, h1, h2⟩ := List.mem_map.mp (mem.mpr e)
      exact ⟨kv, h1, decide_eq_true h2⟩
    rw [if_pos this, List.map_map, ← h]
    refine List.map_congr_left fun kv _ => ?_
    show (if kv.1 = SP.keyP p then (kv.1, v) else kv).1 = kv.1
    split <;> rfl
  · rw [if_neg e]
    unfold putK
    have : ¬ (kvs.any fun kv => decide (kv.1 = SP.keyP p)) = true := fun z => by
      rw [List.any_eq_true] at z
      obtain ⟨kv, h1, h2⟩ := z
      exact e (mem.mp (List.mem_map.mpr ⟨kv, h1, of_decide_eq_true h2⟩))
    rw [if_neg this, List.map_append, h, List.map_append]
    rfl
def spNote (h : Nat) : Sp := fun vs H Q _ => ∃ (v : V) (t : T) (d : Addr) (kvs : List (List L2.Key × V)) (ks : List (Str × Str)), vs = [v, .ref d] ∧ At H v t ∧ (∃ ns kk m, ok ns kk h m t) ∧ nz h t ∧ H d = some (.dT kvs) ∧ kvs.map (·.1) = ks.map SP.keyP ∧ ks.length + (fr h t).length ≤ 100000 ∧
  ∀ H' kvs', ButS d H H' → H' d = some (.dT kvs') → kvs'.map (·.1) = (addAll ks (fr h t)).map SP.keyP → Q .non H'
abbrev sNt : Stmt := top 2
theorem scNt : FnScope ["thing", "found", "inner"] ["thing", "found"] (defScope sNt) := ⟨rfl, rfl, rfl, by decide +kernel, rfl, by decide +kernel, by decide +kernel⟩
theorem ok_note (F : Fun K "note_names" "note_names" sNt f fd) (b : Binds K fd ["thing", "found"] []) (m : mg "note_names" = some (.ref f)) (Fi : Fun K "inner_of" "inner_of" sIn fi fdi) (bi : Binds K fdi ["thing"] []) (mi : mg "inner_of" = some (.ref fi)) : ∀ h, FnOk P w K mg base CX0 (2 + h) f fd ["thing", "found"] (spNote h)
  | 0 => by
    rw [show 2 + 0 = 1 + 1 from rfl]
    refine F.ok scNt (fun vs H Q E h => ?_) (fun cdv A0 outer s H vs Q E hr h => ?_)
    · obtain ⟨v, t, d, kvs, ks, rfl, _⟩ := h
      rfl
    · obtain ⟨_, _, _, _, _, _, _, ⟨_, _, _, z⟩, _⟩ := h
      exact z.elim
  | h + 1 => by
    have IH := ok_note F b m Fi bi mi h
    rw [show 2 + (h + 1) = (2 + h) + 1 by omega]
    refine F.ok scNt (fun vs H Q E h => ?_) (fun cdv A0 outer s H vs Q E hr hh => ?_)
    · obtain ⟨v, t, d, kvs, ks, rfl, _⟩ := h
      rfl
    obtain ⟨v, t, d, kvs, ks, rfl, hA, ⟨ns, kk, mm, hok⟩, hnz, hd, hks, hlen, k⟩ := hh
    refine ⟨_, pss_cons (ps_if (pt_cmpR op_eq (pe_ix ix_tup (pv 0) pe_int (fun _ _ => rfl)) pe_str (nomark _)) (pss_one (ps_dput (hu_of hr) (pv 1) (pe_tup (pa_cons (pe_ix ix_tup (pv 0) pe_int (fun _ _ => rfl)) (pa_cons (pe_ix ix_tup (pv 0) pe_int (fun _ _ => rfl)) pa_nil))) pe_bl rfl)) pss_nil)
      (pss_one (ps_for PassesOwn.never rfl (pi_tup (pe_call (ok_inner (h + 1) Fi) (hr.mono (by omega)) rfl mi Fi.kp bi .nil pass0 (pa_cons (pv 0) pa_nil))) (pg_name (i := 2) scNt.nd rfl (Or.inl rfl))
        (pss_one (ps_expr (pe_call IH hr rfl m F.kp b .nil pass0 (pa_cons (pv 2) (pa_cons (pv 1) pa_nil))))))), ?_⟩
    have first : ∃ a w0 rest, v = .ref a ∧ H a = some (.tup (.str w0 :: rest)) ∧ ((∃ x kx, t = .nam x kx ∧ w0 = "name" ∧ rest = [.str x, .str kx]) ∨ ((w0 == ("name" : Str)) = false ∧ ∀ x kx, t ≠ .nam x kx)) := by
      cases hA with
      | nam e => exact ⟨_, _, _, rfl, e, .inl ⟨_, _, rfl, rfl, rfl⟩⟩
      | bnd e => exact ⟨_, _, _, rfl, e, .inr ⟨lit_ne.1, fun _ _ z => nomatch z⟩⟩
      | var e => exact hok.elim
      | mad e e2 l => exact ⟨_, _, _, rfl, e, .inr ⟨lit_ne.2.2.1, fun _ _ z => nomatch z⟩⟩
      | bin e l => exact ⟨_, _, _, rfl, e, .inr ⟨(bw_ne _).1, fun _ _ z => nomatch z⟩⟩
      | bnn e l => exact hok.elim
      | nod e l => exact ⟨_, _, _, rfl, e, .inr ⟨(nw_ne _).1, fun _ _ z => nomatch z⟩⟩
    obtain ⟨a, w0, rest, rfl, e, hcase⟩ := first
    have loop : ∀ (H1 : Hp) (kvs1 : List (List L2.Key × V)) (ks1 : List (Str × Str)), ButS d H H1 → H1 d = some (.dT kvs1) → kvs1.map (·.1) = ks1.map SP.keyP → addAll ks1 ((kids t).flatMap (fr h)) = addAll ks (fr (h + 1) t) → ks1.length + ((kids t).flatMap (fr h)).length ≤ 100000 →
        tFor (iTup K (tCall (spInner (h + 1)) [] E0 (tCons (tVar 0) tNil))) (gName 2) (tDrop (tCall (spNote h) [] E0 (tCons (tVar 2) (tCons (tVar 1) tNil)))) { nx := fun _ H' => Q .non H', rt := Q } [some (V.ref a), some (V.ref d), none] H1 := by
      intro H1 kvs1 ks1 b1 hd1 hk1 e1 l1
      have hA1 : At H1 (.ref a) t := hA.mono (b1.tup hd)
      refine ⟨_, rfl, _, t, rfl, hA1, ⟨ns, kk, mm, hok⟩, hnz, fun r H2 ys s2 hr2 hL => ⟨r, rfl, ⟨_, SqT.of hr2⟩, ?_⟩⟩
      have hd2 := s2 _ _ hd1
      have step : ∀ i p, (kids t)[i]? = some p → ((kids t).take (i + 1)).flatMap (fr h) = ((kids t).take i).flatMap (fr h) ++ fr h p ∧ (((kids t).take i).flatMap (fr h)).length + (fr h p).length ≤ ((kids t).flatMap (fr h)).length := fun i p hp => by
        have e : ((kids t).take (i + 1)).flatMap (fr h) = ((kids t).take i).flatMap (fr h) ++ fr h p := by
          rw [List.take_succ, hp]
          show ((kids t).take i ++ [p]).flatMap (fr h) = _
          rw [List.flatMap_append]
          simp
        refine ⟨e, ?_⟩
        have z : (kids t).flatMap (fr h) = ((kids t).take (i + 1)).flatMap (fr h) ++ ((kids t).drop (i + 1)).flatMap (fr h) := by rw [← List.flatMap_append, List.take_append_drop]
        rw [z, e, List.length_append, List.length_append]
        omega
      refine for_tup (xs := ys) (fun i σ' H' => (∃ o, σ' = [some (V.ref a), some (V.ref d), o]) ∧ ButS d H2 H' ∧ ∃ kvs', H' d = some (.dT kvs') ∧ kvs'.map (·.1) = (addAll ks1 (((kids t).take i).flatMap (fr h))).map SP.keyP)
        ⟨⟨_, rfl⟩, fun _ _ _ h => h, kvs1, hd2, hk1⟩ (fun i σ' H' _ q => SqT.of (q.2.1 _ _ (ne_of hr2 hd2 (by intro z; cases z)) hr2)) (fun i v σ' H' hv q => ?_) (fun σ' H' q => ?_)
      · obtain ⟨⟨o, rfl⟩, bb, kvs', hd', hk'⟩ := q
        obtain ⟨p, hp, pA⟩ := hL.get hv
        obtain ⟨se, sl⟩ := step i p hp
        obtain ⟨m', hm'⟩ := ok_kids hok p (List.mem_of_getElem? hp)
        have := addAll_len ks1 (((kids t).take i).flatMap (fr h))
        refine ⟨_, rfl, _, rfl, _, p, d, kvs', _, rfl, pA.mono (bb.tup hd2), ⟨ns, kk, m', hm'⟩, nz_kids hnz p (List.mem_of_getElem? hp), hd', hk', by omega, fun H'' kvs'' b2 h2 k2 => ⟨⟨_, rfl⟩, fun x u ne hx => b2 x u ne (bb x u ne hx), kvs'', h2, ?_⟩⟩
        rw [se, addAll_app]
        exact k2
      · obtain ⟨_, bb, kvs', hd', hk'⟩ := q
        rw [hL.length, List.take_length, e1] at hk'
        exact k H' kvs' (fun x u ne hx => bb x u ne (s2 _ _ (b1 x u ne hx))) hd' hk'
    refine ⟨_, rfl, _, _, _, _, rfl, rfl, SqT.of e, atI_nat (j := 0) rfl, ?_⟩
    rcases hcase with ⟨x, kx, rfl, rfl, rfl⟩ | ⟨hne, hnn⟩
    · refine ⟨rfl, true, congrArg V.bl (decide_eq_true rfl), iteT ?_⟩
      refine ⟨_, rfl, _, rfl, _, _, _, _, rfl, rfl, SqT.of e, rfl, _, rfl, _, _, _, _, rfl, rfl, SqT.of e, rfl, by show 2 ≤ sizeLine; decide, fun p hp => ?_⟩
      have hd1 : upd H p (.tup [.str x, .str kx]) d = some (.dT kvs) := by rw [upd_ne (ne_of_none hd hp)]; exact hd
      refine ⟨d, _, rfl, DPut.t (k := SP.keyP (x, kx)) hd1 upd_same ?_, ?_⟩
      · have := congrArg List.length hks
        rw [List.length_map, List.length_map] at this
        refine Nat.lt_of_le_of_lt (show kvs.length ≤ 100000 by omega) (by decide)
      · refine loop _ _ (if (x, kx) ∈ ks then ks else ks ++ [(x, kx)]) (fun b o ne ho => ?_) upd_same (putK_keys hks _ _) rfl ?_
        · rw [upd_ne ne, upd_ne (ne_of_none ho hp)]
          exact ho
        · have z : ks.length + 1 ≤ 100000 := hlen
          show (if (x, kx) ∈ ks then ks else ks ++ [(x, kx)]).length + 0 ≤ 100000
          split
          · omega
          · rw [List.length_append, List.length_singleton]
            omega
    · refine ⟨rfl, false, congrArg V.bl (decS hne), iteF ?_⟩
      have ef := fr_kids (h := h) hnn
      exact loop H kvs ks (fun _ _ _ ho => ho) hd hks (by rw [ef]) (by rw [← ef]; exact hlen)
end
end KD

/-! KD9: free_in, _law_free. -/
namespace KD
open PySem PySem.Spec PyProof.Rows L2 LamX NdefX LamF KM
theorem boot_sorted : bootBuiltins "sorted" = some (.builtin "sorted") := by decide +kernel
theorem boot_isi : bootBuiltins "isinstance" = some (.builtin "isinstance") := by decide +kernel
theorem boot_setT : bootBuiltins "set" = some (.type "set") := by decide +kernel
theorem boot_listT : bootBuiltins "list" = some (.type "list") := by decide +kernel
theorem mem_addAll {p : Str × Str} : ∀ {l ks : List (Str × Str)}, p ∈ addAll ks l ↔ p ∈ ks ∨ p ∈ l
  | [], ks => by show p ∈ ks ↔ _; simp
  | q :: l, ks => by
    show p ∈ addAll (if q ∈ ks then ks else ks ++ [q]) l ↔ _
    rw [mem_addAll]
    by_cases e : q ∈ ks
    · rw [if_pos e, List.mem_cons]
      exact ⟨fun z => z.elim .inl fun z => .inr (.inr z), fun z => z.elim .inl fun z => z.elim (fun z => .inl (z ▸ e)) .inr⟩
    · rw [if_neg e, List.mem_append, List.mem_singleton, List.mem_cons, or_assoc]
theorem nd_addAll : ∀ {l ks : List (Str × Str)}, ks.Nodup → (addAll ks l).Nodup
  | [], ks, h => h
  | q :: l, ks, h => by
    show (addAll (if q ∈ ks then ks else ks ++ [q]) l).Nodup
    refine nd_addAll ?_
    by_cases e : q ∈ ks
    · rw [if_pos e]; exact h
    · rw [if_neg e]
      refine List.nodup_append.mpr ⟨h, by simp, fun a ha b hb => ?_⟩
      rw [List.mem_singleton.mp hb]
      exact fun z => e (z ▸ ha)
/-- at L stand pairs: the list at r -/
def PairsAt (H : Hp) (r : Addr) (L : List (Addr × (Str × Str))) : Prop := H r = some (.lst (L.map fun x => V.ref x.1)) ∧ ∀ x ∈ L, H x.1 = some (SP.tupP x.2)
def spFreeIn (h : Nat) : Sp := fun vs H Q _ => ∃ (l : Addr) (us : List V) (ts : List T) (D : List (Str × Str)), vs = [.ref l] ∧ H l = some (.lst us) ∧ AtL H us ts ∧ (∀ t ∈ ts, (∃ ns ks m, ok ns ks h m t) ∧ nz h t) ∧ (ts.flatMap (fr h)).length ≤ 100000 ∧ D.length < 64 ∧ (∀ p ∈ ts.flatMap (fr h), p ∈ D) ∧
  ∀ H' L r, Same H H' → H r = none → PairsAt H' r L → (L.map (·.2)).Perm (addAll [] (ts.flatMap (fr h))) → SP.Rise (L.map (·.2)) → Q (.ref r) H'
theorem scFi : FnScope ["sayings", "found", "saying"] ["sayings"] (defScope (top 11)) := ⟨rfl, rfl, rfl, by decide +kernel, rfl, by decide +kernel, by decide +kernel⟩
section
variable {P : Program} {w : World} {K : PySem.W.Frag} {mg : Str → Option Value} {base : Heap} {f fn fi : Addr} {fd fdn fdi : FuncData}
theorem ok_freeIn (h : Nat) (F : Fun K "free_in" "free_in" (top 11) f fd) (X : TxtL mg) (Fn : Fun K "note_names" "note_names" sNt fn fdn) (bn : Binds K fdn ["thing", "found"] []) (mn : mg "note_names" = some (.ref fn))
    (Fi : Fun K "inner_of" "inner_of" sIn fi fdi) (bi : Binds K fdi ["thing"] []) (mi : mg "inner_of" = some (.ref fi)) : FnOk P w K mg base CX0 (3 + h) f fd ["sayings"] (spFreeIn h) := by
  rw [show 3 + h = (2 + h) + 1 by omega]
  refine F.ok scFi (fun vs H Q E h => ?_) (fun cdv A0 outer s H vs Q E hr hh => ?_)
  · obtain ⟨l, us, ts, D, rfl, _⟩ := h
    rfl
  obtain ⟨l, us, ts, D, rfl, hl, hL, hok, hlen, hD, hin, k⟩ := hh
  refine ⟨_, pss_cons (ps_set (i := 1) scFi.nd rfl (Or.inl rfl) pe_dnewT)
    (pss_cons (ps_for PassesOwn.never rfl (pi_list (pv 0)) (pg_name (i := 2) scFi.nd rfl (Or.inl rfl)) (pss_one (ps_expr (pe_call (ok_note Fn bn mn Fi bi mi h) hr rfl mn Fn.kp bn .nil pass0 (pa_cons (pv 2) (pa_cons (pv 1) pa_nil))))))
    (pss_one (ps_ret (pe_callB (SP.cr_sortDT rfl) (by rfl) X.sorted boot_sorted (pa_cons (pv 1) pa_nil))))), ?_⟩
  intro d hd
  have s0 : Same H (upd H d (.dT [])) := Same.upd hd
  have tupS : ∀ {H' : Hp}, ButS d (upd H d (.dT [])) H' → Same H H' := fun {H'} b x o e => b x o (ne_of_none e hd) (s0 _ _ e)
  refine ⟨_, rfl, l, rfl, ⟨_, SqL.of (s0 _ _ hl)⟩, for_list (xs := us) (fun i σ' H' => (∃ o, σ' = [some (V.ref l), some (V.ref d), o]) ∧ ButS d (upd H d (.dT [])) H' ∧ ∃ kvs, H' d = some (.dT kvs) ∧ kvs.map (·.1) = (addAll [] ((ts.take i).flatMap (fr h))).map SP.keyP)
    ⟨⟨_, rfl⟩, fun _ _ _ h => h, [], upd_same, rfl⟩ (fun i σ' H' _ q => SqL.of (tupS q.2.1 _ _ hl)) (fun i v σ' H' hv q => ?_) (fun σ' H' q => ?_)⟩
  · obtain ⟨⟨o, rfl⟩, bb, kvs, hd', hk⟩ := q
    obtain ⟨t, ht, tA⟩ := hL.get hv
    have e : (ts.take (i + 1)).flatMap (fr h) = (ts.take i).flatMap (fr h) ++ fr h t := by
      rw [List.take_succ, ht]
      show (ts.take i ++ [t]).flatMap (fr h) = _
      rw [List.flatMap_append]
      simp
    have le : ((ts.take i).flatMap (fr h)).length + (fr h t).length ≤ (ts.flatMap (fr h)).length := by
      have z : ts.flatMap (fr h) = (ts.take (i + 1)).flatMap (fr h) ++ (ts.drop (i + 1)).flatMap (fr h) := by rw [← List.flatMap_append, List.take_append_drop]
      rw [z, e, List.length_append, List.length_append]
      omega
    obtain ⟨okt, nzt⟩ := hok t (List.mem_of_getElem? ht)
    have al := addAll_len [] ((ts.take i).flatMap (fr h))
    rw [List.length_nil] at al
    refine ⟨_, rfl, _, rfl, _, t, d, kvs, _, rfl, tA.mono (.same (tupS bb)), okt, nzt, hd', hk, by omega, fun H'' kvs'' b2 h2 k2 => ⟨⟨_, rfl⟩, fun x u ne hx => b2 x u ne (bb x u ne hx), kvs'', h2, ?_⟩⟩
    rw [e, addAll_app]
    exact k2
  · obtain ⟨⟨o, rfl⟩, bb, kvs, hd', hk⟩ := q
    rw [hL.length, List.take_length] at hk
    have sH := tupS bb
    refine ⟨_, rfl, d, kvs, _, rfl, hd', hk, ?_, fun L p pm rise hx hp => k _ L p (sH.trans (Same.upd hp)) (sH.free hp) ⟨upd_same, fun x hxm => by rw [upd_ne (ne_of_none (hx x hxm) hp)]; exact hx x hxm⟩ pm rise⟩
    exact Nat.lt_of_le_of_lt (SP.nd_len _ D (nd_addAll List.nodup_nil) fun p hp => hin p ((mem_addAll.mp hp).elim (fun z => nomatch z) id)) hD
end
end KD

/-! KDa: _law_free. -/
namespace KD
open PySem PySem.Spec PyProof.Rows L2 LamX NdefX LamF KM
def spLFree (h : Nat) : Sp := fun vs H Q _ => ∃ (v : V) (t : T), vs = [v] ∧ At H v t ∧ (∃ ns ks m, ok ns ks h m t) ∧ h ≤ 12 ∧ ∀ H' L r, Same H H' → H r = none → PairsAt H' r L → L.map (·.2) = fr h t → Q (.ref r) H'
abbrev sFr : Stmt := top 26
abbrev nFr : List Str := ["_law_thing", "_law_found", "_law_part"]
theorem scFr : FnScope nFr ["_law_thing"] (defScope sFr) := ⟨rfl, rfl, rfl, by decide +kernel, rfl, by decide +kernel, by decide +kernel⟩
theorem PairsAt.same {H H' : Hp} {r : Addr} {L : List (Addr × (Str × Str))} (x : PairsAt H r L) (e : Same H H') : PairsAt H' r L := ⟨e _ _ x.1, fun q hq => e _ _ (x.2 q hq)⟩
/-- found = found + _law_free(part), over the parts -/
theorem flat_step {h : Nat} {ts : List T} {i : Nat} {t : T} (ht : ts[i]? = some t) : (ts.take (i + 1)).flatMap (fr h) = (ts.take i).flatMap (fr h) ++ fr h t ∧ ((ts.take i).flatMap (fr h)).length + (fr h t).length ≤ (ts.flatMap (fr h)).length := by
  have e : (ts.take (i + 1)).flatMap (fr h) = (ts.take i).flatMap (fr h) ++ fr h t := by
    rw [List.take_succ, ht]
    show (ts.take i ++ [t]).flatMap (fr h) = _
    rw [List.flatMap_append]
    simp
  refine ⟨e, ?_⟩
  have z : ts.flatMap (fr h) = (ts.take (i + 1)).flatMap (fr h) ++ (ts.drop (i + 1)).flatMap (fr h) := by rw [← List.flatMap_append, List.take_append_drop]
  rw [z, e, List.length_append, List.length_append]
  omega
theorem frs_len {ns ks : List Str} {h m : Nat} {t : T} (q : ok ns ks h m t) (hh : h ≤ 12) : (fr h t).length ≤ 600000 := Nat.le_trans (fr_len q) (Nat.le_trans (Nat.pow_le_pow_right (by decide) hh) (by decide))
/-- what stands behind the word, and which names it gives to the first loop -/
inductive Item (H : Hp) (ns ks : List Str) (h : Nat) (w0 : Str) : V → List (Str × Str) → Prop
  | int (n : Int) : Item H ns ks h w0 (.int n) []
  | str (z : Str) : Item H ns ks h w0 (.str z) []
  | sub {x : V} {t : T} {m : Nat} : At H x t → ok ns ks h m t → (w0 == ("made" : Str)) = false → Item H ns ks h w0 x (fr h t)
  | parts {b : Addr} {us : List V} {qs : List T} : (w0 == ("made" : Str)) = true → H b = some (.tup us) → AtL H us qs → (∀ q ∈ qs, hi h q) → Item H ns ks h w0 (.ref b) []
theorem eqv_nil {h : Nat} : ∀ {t : T}, hi (h + 1) t → PyData.eqv (toD (h + 1) t) (.tuple []) = false
  | .nam _ _, _ => rfl
  | .bnd _, _ => rfl
  | .var _, _ => rfl
  | .mad _ _, _ => rfl
  | .bin _ _ _, _ => rfl
  | .bnn _ _ _ _, _ => rfl
  | .nod _ _, _ => rfl
theorem At.tupA {H : Hp} {v : V} {t : T} (h : At H v t) : ∃ a xs, v = .ref a ∧ H a = some (.tup xs) := by
  cases h with
  | nam e => exact ⟨_, _, rfl, e⟩
  | bnd e => exact ⟨_, _, rfl, e⟩
  | var e => exact ⟨_, _, rfl, e⟩
  | mad e _ _ => exact ⟨_, _, rfl, e⟩
  | bin e _ => exact ⟨_, _, rfl, e⟩
  | bnn e _ => exact ⟨_, _, rfl, e⟩
  | nod e _ => exact ⟨_, _, rfl, e⟩
theorem shaped_nil : SeqAt.shaped (.tuple []) = true := by decide +kernel
theorem shaped_parts {h : Nat} {ps : List T} (z : ∀ p ∈ ps, hi h p) (l : h ≤ 30) : SeqAt.shaped (.tuple (ps.map (toD h))) = true := by
  unfold SeqAt.shaped
  have c : (PyData.tuple (ps.map (toD h))).canLay0 = true := by
    simp only [PyData.canLay0]
    exact canLayAll_map ps fun p hp => canLay_toD (z p hp)
  rw [c, Bool.true_and]
  have q := depthAll_map (f := toD h) (b := 2 * h) ps fun p hp => depth_toD (z p hp)
  refine decide_eq_true ?_
  simp only [PyData.depth]
  omega
section
variable {P : Program} {w : World} {K : PySem.W.Frag} {mg : Str → Option Value} {base : Heap} {f : Addr} {fd : FuncData}
theorem ok_lfree (F : Fun K "_law_free" "_law_free" sFr f fd) (b : Binds K fd ["_law_thing"] []) (m : mg "_law_free" = some (.ref f)) (X : TxtL mg) : ∀ h, FnOk P w K mg base CX0 (1 + h) f fd ["_law_thing"] (spLFree h)
  | 0 => by
    refine F.ok scFr (fun vs H Q E h => ?_) (fun cdv A0 outer s H vs Q E hr h => ?_)
    · obtain ⟨v, t, rfl, _⟩ := h
      rfl
    · obtain ⟨_, _, _, _, ⟨_, _, _, z⟩, _⟩ := h
      exact z.elim
  | h + 1 => by
    have IH := ok_lfree F b m X h
    rw [show 1 + (h + 1) = (1 + h) + 1 by omega]
    refine F.ok scFr (fun vs H Q E h => ?_) (fun cdv A0 outer s H vs Q E hr hh => ?_)
    · obtain ⟨v, t, rfl, _⟩ := h
      rfl
    obtain ⟨v, t, rfl, hA, ⟨ns, ks, mm, hok⟩, hh, k⟩ := hh
    refine ⟨_, pss_cons (ps_if (pt_cmpR op_eq (pe_ix ix_tup (pv 0) pe_int (fun _ _ => rfl)) pe_str (nomark _)) (pss_one (ps_ret (pe_lst (pa_cons (pe_tup (pa_cons (pe_ix ix_tup (pv 0) pe_int (fun _ _ => rfl)) (pa_cons (pe_ix ix_tup (pv 0) pe_int (fun _ _ => rfl)) pa_nil))) pa_nil)))) pss_nil)
      (pss_cons (ps_set (i := 1) scFr.nd rfl (Or.inl rfl) (pe_lst pa_nil))
      (pss_cons (ps_for PassesOwn.never rfl (pi_tup (pe_slice sl_tupA (pv 0) (po_some pe_int) po_none)) (pg_name (i := 2) scFr.nd rfl (Or.inl rfl))
        (pss_one (ps_if (PW.pt (pw_and (pt_val (pe_callB call_isi (by rfl) X.isi boot_isi (pa_cons (pv 2) (pa_cons (pe_bltn (v := .ty "tuple") rfl X.tuple boot_tuple rfl) pa_nil))))
          (pw_and (pt_cmpR (op_neD (u64 hr)) (pv 2) (pe_tup pa_nil) (nomark _)) (pw_and1 (pt_cmpR op_ne (pe_ix ix_tup (pv 0) pe_int (fun _ _ => rfl)) pe_str (nomark _))))))
          (pss_one (ps_set (i := 1) scFr.nd rfl (Or.inl rfl) (pe_op op_cat (pv 1) (pe_call IH hr rfl m F.kp b .nil pass0 (pa_cons (pv 2) pa_nil))))) pss_nil)))
      (pss_cons (ps_if (pt_cmpR op_eq (pe_ix ix_tup (pv 0) pe_int (fun _ _ => rfl)) pe_str (nomark _)) (pss_one (ps_for PassesOwn.never rfl (pi_tup (pe_ix ix_tup (pv 0) pe_int (fun _ _ => rfl))) (pg_name (i := 2) scFr.nd rfl (Or.inl rfl))
        (pss_one (ps_set (i := 1) scFr.nd rfl (Or.inl rfl) (pe_op op_cat (pv 1) (pe_call IH hr rfl m F.kp b .nil pass0 (pa_cons (pv 2) pa_nil))))))) pss_nil)
      (pss_one (ps_ret (pv 1)))))), ?_⟩
    by_cases hnm : ∃ x0 k0, t = .nam x0 k0
    · obtain ⟨x0, k0, rfl⟩ := hnm
      cases hA with
      | nam e =>
        refine ⟨_, rfl, _, _, _, _, rfl, rfl, SqT.of e, rfl, rfl, true, congrArg V.bl (decide_eq_true rfl), iteT ?_⟩
        refine ⟨_, rfl, _, _, _, _, rfl, rfl, SqT.of e, rfl, _, rfl, _, _, _, _, rfl, rfl, SqT.of e, rfl, by show 2 ≤ sizeLine; decide, fun p hp => ⟨by show 1 ≤ sizeLine; decide, fun r hr => ?_⟩⟩
        exact k _ [(p, (x0, k0))] r ((Same.upd hp).trans (Same.upd hr)) ((Same.upd hp).free hr) ⟨upd_same, fun q hq => by
          rw [List.mem_singleton.mp hq, upd_ne (ne_of_none upd_same hr)]
          exact upd_same⟩ rfl
    · have desc : ∃ (a : Addr) (w0 : Str) (rest : List V) (cs : List (List (Str × Str))) (ps : List T), v = .ref a ∧ H a = some (.tup (.str w0 :: rest)) ∧ cs.length = rest.length ∧ (∀ (i : Nat) (x : V) (c : List (Str × Str)), rest[i]? = some x → cs[i]? = some c → Item H ns ks h w0 x c) ∧
          fr (h + 1) t = cs.flatten ++ ps.flatMap (fr h) ∧ (w0 == ("name" : Str)) = false ∧ ((w0 == ("made" : Str)) = true → ∃ b us, rest[1]? = some (.ref b) ∧ H b = some (.tup us) ∧ AtL H us ps ∧ ∀ p ∈ ps, ok ns ks h mm p) ∧ ((w0 == ("made" : Str)) = false → ps = []) := by
        cases hA with
        | nam e => exact absurd ⟨_, _, rfl⟩ hnm
        | bnd e =>
          refine ⟨_, _, _, [[]], [], rfl, e, rfl, fun i x c hx hc => ?_, rfl, lit_ne.1, fun z => absurd z (by rw [litM.2.1]; decide), fun _ => rfl⟩
          match i, hx, hc with
          | 0, rfl, rfl => exact .int _
        | var e => exact hok.elim
        | mad e e2 l =>
          refine ⟨_, _, _, [[], []], _, rfl, e, rfl, fun i x c hx hc => ?_, rfl, lit_ne.2.2.1, fun _ => ⟨_, _, rfl, e2, l, hok.2⟩, fun z => by rw [beq_self_eq_true] at z; cases z⟩
          match i, hx, hc with
          | 0, rfl, rfl => exact .str _
          | 1, rfl, rfl => exact .parts (beq_self_eq_true _) e2 l fun q hq => hi_ok (hok.2 q hq)
        | bin e l =>
          rename_i a0 w0 k0 v0 t0
          refine ⟨_, _, _, [[], fr h t0], [], rfl, e, rfl, fun i x c hx hc => ?_, by simp [fr], (bw_ne _).1, fun z => absurd z (by rw [litM.2.2.2.1]; decide), fun _ => rfl⟩
          match i, hx, hc with
          | 0, rfl, rfl => exact .str _
          | 1, rfl, rfl => exact .sub l hok.2 (litM.2.2.2.1 w0)
        | bnn e l => exact hok.elim
        | nod e l =>
          rename_i a0 w0 vs0 ps0
          refine ⟨_, _, _, ps0.map (fr h), [], rfl, e, by rw [List.length_map, l.length], fun i x c hx hc => ?_, ?_, (nw_ne _).1, fun z => absurd z (by rw [litM.2.2.2.2]; decide), fun _ => rfl⟩
          · obtain ⟨q, hq, qA⟩ := l.get hx
            rw [List.getElem?_map, hq] at hc
            cases hc
            exact .sub qA (hok.2 q (List.mem_of_getElem? hq)) (litM.2.2.2.2 w0)
          · show ps0.flatMap (fr h) = (ps0.map (fr h)).flatten ++ [].flatMap (fr h)
            rw [List.flatMap_def]
            simp
      have hlen := frs_len hok hh
      clear hA hok
      obtain ⟨a, w0, rest, cs, ps, rfl, e, hcl, hit, efr, hnn, hmade, hnot⟩ := desc
      rw [efr, List.length_append] at hlen
      refine ⟨_, rfl, _, _, _, _, rfl, rfl, SqT.of e, atI_nat (j := 0) rfl, rfl, false, congrArg V.bl (decS hnn), iteF ?_⟩
      refine ⟨Nat.zero_le _, fun fo0 hfo => ?_⟩
      have s0 : Same H (upd H fo0 (.lst [])) := Same.upd hfo
      refine ⟨_, rfl, 1, rfl, _, _, rfl, SqT.of (s0 _ _ e), fun z => absurd z.1 (cut1 _ _).1, fun _ p hp => ?_⟩
      rw [(cut1 _ _).2]
      have s1 : Same (upd H fo0 (.lst [])) (upd (upd H fo0 (.lst [])) p (.tup rest)) := Same.upd hp
      refine ⟨p, rfl, ⟨_, SqT.of upd_same⟩, ?_⟩
      refine for_tup (xs := rest) (fun i σ' H' => ∃ fo o L, σ' = [some (V.ref a), some (V.ref fo), o] ∧ Same (upd (upd H fo0 (.lst [])) p (.tup rest)) H' ∧ Same H H' ∧ PairsAt H' fo L ∧ H fo = none ∧ L.map (·.2) = (cs.take i).flatten) ?_ (fun i σ' H' _ q => ?_) (fun i x σ' H' hx q => ?_) (fun σ' H' q => ?_)
      · exact ⟨fo0, none, [], rfl, fun _ _ h => h, s0.trans s1, ⟨s1 _ _ upd_same, fun q hq => nomatch hq⟩, hfo, rfl⟩
      · obtain ⟨_, _, _, _, sA, _⟩ := q
        exact SqT.of (sA _ _ upd_same)
      · obtain ⟨fo', o, L, rfl, sA, sH, pL, hfn, eL⟩ := q
        have hi1 : i < rest.length := (List.getElem?_eq_some_iff.mp hx).1
        obtain ⟨c, hc⟩ : ∃ c, cs[i]? = some c := ⟨_, List.getElem?_eq_getElem (by omega)⟩
        have et : (cs.take (i + 1)).flatten = (cs.take i).flatten ++ c := by
          rw [List.take_succ, hc]
          show ((cs.take i) ++ [c]).flatten = _
          rw [List.flatten_append]
          simp
        have lc : ((cs.take i).flatten).length + c.length ≤ cs.flatten.length := by
          have z : cs.flatten = (cs.take (i + 1)).flatten ++ (cs.drop (i + 1)).flatten := by rw [← List.flatten_append, List.take_append_drop]
          rw [z, et, List.length_append, List.length_append]
          omega
        have skip : c = [] → ∃ fo o' L, [some (V.ref a), some (V.ref fo'), some x] = [some (V.ref a), some (V.ref fo), o'] ∧ Same (upd (upd H fo0 (.lst [])) p (.tup rest)) H' ∧ Same H H' ∧ PairsAt H' fo L ∧ H fo = none ∧ L.map (·.2) = (cs.take (i + 1)).flatten := fun ec =>
          ⟨fo', some x, L, rfl, sA, sH, pL, hfn, by rw [et, ec, List.append_nil, eL]⟩
        cases hit i x c hx hc with
        | int n =>
          refine ⟨_, rfl, _, V.ty "tuple", _, _, false, rfl, .ty "tuple", .base (.int n), kit_ty (by decide +kernel), _, rfl, iteF (iteF (skip rfl))⟩
        | str z =>
          refine ⟨_, rfl, _, V.ty "tuple", _, _, false, rfl, .ty "tuple", .base (.str z), kit_ty (by decide +kernel), _, rfl, iteF (iteF (skip rfl))⟩
        | sub xA okx hw =>
          rename_i t' m'
          obtain ⟨b, xs, rfl, hb⟩ := xA.tupA
          have xA1 := xA.mono (.same sH)
          refine ⟨_, rfl, _, V.ty "tuple", _, _, true, rfl, .ty "tuple", .base (.tup (sH _ _ hb)), kit_ty (by decide +kernel), _, rfl, iteT ?_⟩
          refine ⟨_, rfl, Nat.zero_le _, fun r hr => ?_⟩
          have s2 : Same H' (upd H' r (.tup [])) := Same.upd hr
          cases h with
          | zero => exact okx.elim
          | succ h =>
          have hz := hi_ok okx
          refine ⟨_, _, (xA1.mono (.same s2)).dp hz, .tup (SqT.of upd_same) .nil, shaped_toD hz (by omega), shaped_nil, true, congrArg V.bl (by rw [eqv_nil hz]; rfl), iteT ?_⟩
          refine ⟨_, rfl, _, _, _, _, rfl, rfl, SqT.of (s2 _ _ (sH _ _ e)), atI_nat (j := 0) rfl, rfl, true, congrArg V.bl (by rw [decS hw]; rfl), iteT ?_⟩
          refine ⟨_, rfl, _, rfl, _, t', rfl, xA1.mono (.same s2), ⟨ns, ks, m', okx⟩, by omega, fun H2 L2 r2 s3 hn pL2 e2 => ?_⟩
          have pL3 := (pL.same s2).same s3
          have l1 : L.length ≤ 600000 := by rw [← List.length_map (f := (·.2)), eL]; omega
          have l2 : L2.length ≤ 600000 := by rw [← List.length_map (f := (·.2)), e2]; omega
          refine ⟨fo', r2, _, _, rfl, rfl, pL3.1, pL2.1, by rw [List.length_map, List.length_map]; exact Nat.le_trans (Nat.add_le_add l1 l2) (by decide), fun u hu => ?_⟩
          have s4 : Same H2 (upd H2 u (.lst (L.map (fun x => V.ref x.1) ++ L2.map fun x => V.ref x.1))) := Same.upd hu
          refine ⟨u, some (V.ref b), L ++ L2, rfl, ((sA.trans s2).trans s3).trans s4, ((sH.trans s2).trans s3).trans s4, ⟨by rw [upd_same, List.map_append], fun q hq => ?_⟩, ((sH.trans s2).trans s3).free hu, by rw [List.map_append, eL, e2, et]⟩
          rcases List.mem_append.mp hq with hq | hq
          · exact s4 _ _ (pL3.2 q hq)
          · exact s4 _ _ (pL2.2 q hq)
        | parts hw hb hus hq =>
          rename_i b us qs
          refine ⟨_, rfl, _, V.ty "tuple", _, _, true, rfl, .ty "tuple", .base (.tup (sH _ _ hb)), kit_ty (by decide +kernel), _, rfl, iteT ?_⟩
          refine ⟨_, rfl, Nat.zero_le _, fun r hr => ?_⟩
          have s2 : Same H' (upd H' r (.tup [])) := Same.upd hr
          refine ⟨_, _, .tup (SqT.of (s2 _ _ (sH _ _ hb))) (((hus.mono (.same sH)).mono (.same s2)).dp hq), .tup (SqT.of upd_same) .nil, shaped_parts hq (by omega), shaped_nil, _, rfl, ?_⟩
          have fin : ∃ fo o' L, [some (V.ref a), some (V.ref fo'), some (V.ref b)] = [some (V.ref a), some (V.ref fo), o'] ∧ Same (upd (upd H fo0 (.lst [])) p (.tup rest)) (upd H' r (.tup [])) ∧ Same H (upd H' r (.tup [])) ∧ PairsAt (upd H' r (.tup [])) fo L ∧ H fo = none ∧ L.map (·.2) = (cs.take (i + 1)).flatten :=
            ⟨fo', _, L, rfl, sA.trans s2, sH.trans s2, pL.same s2, hfn, by rw [et, List.append_nil, eL]⟩
          refine ite2 (fun _ => ?_) (fun _ => iteF fin)
          have hm : decide (V.str w0 = V.str "made") = true := decide_eq_true (by rw [eq_of_beq hw])
          exact ⟨_, rfl, _, _, _, _, rfl, rfl, SqT.of (s2 _ _ (sH _ _ e)), atI_nat (j := 0) rfl, rfl, false, congrArg V.bl (by rw [hm]; rfl), iteF fin⟩
      · obtain ⟨fo', o, L, rfl, sA, sH, pL, hfn, eL⟩ := q
        rw [← hcl, List.take_length] at eL
        refine ⟨_, rfl, _, _, _, _, rfl, rfl, SqT.of (sH _ _ e), atI_nat (j := 0) rfl, rfl, _, rfl, ?_⟩
        cases hm : (w0 == ("made" : Str)) with
        | false =>
          rw [decS hm]
          refine iteF ⟨_, rfl, k H' L fo' sH hfn pL ?_⟩
          rw [efr, hnot hm, eL]
          simp
        | true =>
          rw [decide_eq_true (show V.str w0 = V.str "made" by rw [eq_of_beq hm])]
          obtain ⟨b, us, hr1, hb, hus, hok2⟩ := hmade hm
          refine iteT ⟨_, rfl, _, _, _, _, rfl, rfl, SqT.of (sH _ _ e), atI_nat (j := 2) (by simpa using hr1), b, rfl, ⟨_, SqT.of (sH _ _ hb)⟩, ?_⟩
          refine for_tup (xs := us) (fun i σ' H2 => ∃ fo o L, σ' = [some (V.ref a), some (V.ref fo), o] ∧ Same H H2 ∧ PairsAt H2 fo L ∧ H fo = none ∧ L.map (·.2) = cs.flatten ++ (ps.take i).flatMap (fr h)) ⟨fo', _, L, rfl, sH, pL, hfn, by rw [eL]; simp⟩ (fun i σ' H2 _ q => ?_) (fun i x σ' H2 hx q => ?_) (fun σ' H2 q => ?_)
          · obtain ⟨_, _, _, _, sA, _⟩ := q
            exact SqT.of (sA _ _ hb)
          · obtain ⟨fo2, o2, L1, rfl, s2, pL1, hfn2, eL1⟩ := q
            obtain ⟨t', ht, tA⟩ := hus.get hx
            obtain ⟨se, sl⟩ := flat_step (h := h) ht
            refine ⟨_, rfl, _, rfl, _, t', rfl, tA.mono (.same s2), ⟨ns, ks, mm, hok2 t' (List.mem_of_getElem? ht)⟩, by omega, fun H3 L2 r2 s3 hn pL2 e2 => ?_⟩
            have pL3 := pL1.same s3
            have l1 : L1.length ≤ 600000 := by rw [← List.length_map (f := (·.2)), eL1, List.length_append]; omega
            have l2 : L2.length ≤ 600000 := by rw [← List.length_map (f := (·.2)), e2]; omega
            refine ⟨fo2, r2, _, _, rfl, rfl, pL3.1, pL2.1, by rw [List.length_map, List.length_map]; exact Nat.le_trans (Nat.add_le_add l1 l2) (by decide), fun u hu => ?_⟩
            have s4 : Same H3 (upd H3 u (.lst (L1.map (fun x => V.ref x.1) ++ L2.map fun x => V.ref x.1))) := Same.upd hu
            refine ⟨u, some x, L1 ++ L2, rfl, (s2.trans s3).trans s4, ⟨by rw [upd_same, List.map_append], fun q hq => ?_⟩, (s2.trans s3).free hu, by rw [List.map_append, eL1, e2, se, List.append_assoc]⟩
            rcases List.mem_append.mp hq with hq | hq
            · exact s4 _ _ (pL3.2 q hq)
            · exact s4 _ _ (pL2.2 q hq)
          · obtain ⟨fo2, o2, L1, rfl, s2, pL1, hfn2, eL1⟩ := q
            refine ⟨_, rfl, k H2 L1 fo2 s2 hfn2 pL1 ?_⟩
            rw [hus.length, List.take_length] at eL1
            rw [efr, eL1]
end
end KD

/-! KDb: _law_free_right. -/
namespace KD
open PySem PySem.Spec PyProof.Rows L2 LamX NdefX LamF KM
theorem fr_G {ns ks : List Str} : ∀ {h m : Nat} {t : T}, ok ns ks h m t → ∀ p ∈ fr h t, G p.1 ∧ G p.2
  | 0, _, _, z, _, _ => z.elim
  | h + 1, m, .nam x k, q, p, hp => by
    rw [List.mem_singleton.mp (show p ∈ [(x, k)] from hp)]
    exact ⟨q.1.2, q.2.2⟩
  | h + 1, m, .bnd n, q, p, hp => nomatch (show p ∈ ([] : List (Str × Str)) from hp)
  | h + 1, m, .var n, q, p, hp => q.elim
  | h + 1, m, .mad f ps, q, p, hp => by
    obtain ⟨t, ht, hp⟩ := List.mem_flatMap.mp hp
    exact fr_G (q.2 t ht) p hp
  | h + 1, m, .bin w k a, q, p, hp => fr_G (h := h) q.2 p hp
  | h + 1, m, .bnn _ _ _ _, q, p, hp => q.elim
  | h + 1, m, .nod w ps, q, p, hp => by
    obtain ⟨t, ht, hp⟩ := List.mem_flatMap.mp hp
    exact fr_G (q.2 t ht) p hp
def dP (p : Str × Str) : PyData := .tuple [.str p.1, .str p.2]
theorem pairs_dp {K : PySem.W.Frag} {H : Hp} : ∀ {L : List (Addr × (Str × Str))}, (∀ x ∈ L, H x.1 = some (SP.tupP x.2)) → DpAll K H (L.map fun x => V.ref x.1) ((L.map (·.2)).map dP)
  | [], _ => .nil
  | x :: L, h => .cons (.tup (SqT.of (h x List.mem_cons_self)) (.cons (.str _) (.cons (.str _) .nil))) (pairs_dp fun y hy => h y (List.mem_cons_of_mem _ hy))
theorem PairsAt.dp {K : PySem.W.Frag} {H : Hp} {r : Addr} {L : List (Addr × (Str × Str))} (x : PairsAt H r L) : Dp K H (.ref r) (.list ((L.map (·.2)).map dP)) := .lst (SqL.of x.1) (pairs_dp x.2)
theorem canP : ∀ {l : List (Str × Str)}, (∀ p ∈ l, G p.1 ∧ G p.2) → PyData.canLayAll0 (l.map dP) = true
  | [], _ => by simp only [List.map_nil, PyData.canLayAll0]
  | p :: l, h => by
    simp only [List.map_cons, PyData.canLayAll0, Bool.and_eq_true]
    refine ⟨?_, canP fun q hq => h q (List.mem_cons_of_mem _ hq)⟩
    obtain ⟨g1, g2⟩ := h p List.mem_cons_self
    unfold dP
    simp only [PyData.canLay0, PyData.canLayAll0, Bool.and_eq_true]
    exact ⟨G.strOk g1, G.strOk g2, trivial⟩
theorem depP : ∀ (l : List (Str × Str)), PyData.depthAll (l.map dP) ≤ 1
  | [] => by simp [PyData.depthAll]
  | p :: l => by
    simp only [List.map_cons, PyData.depthAll]
    refine Nat.max_le.mpr ⟨?_, depP l⟩
    unfold dP
    simp [PyData.depth, PyData.depthAll]
theorem shapedP {l : List (Str × Str)} (h : ∀ p ∈ l, G p.1 ∧ G p.2) : SeqAt.shaped (.list (l.map dP)) = true := by
  unfold SeqAt.shaped
  have c : (PyData.list (l.map dP)).canLay0 = true := by
    simp only [PyData.canLay0]
    exact canP h
  rw [c, Bool.true_and]
  have q := depP l
  refine decide_eq_true ?_
  simp only [PyData.depth]
  omega
theorem eqvP {l : List (Str × Str)} (h : ∀ p ∈ l, G p.1 ∧ G p.2) : PyData.eqv (.list (l.map dP)) (.list (l.map dP)) = true := PySem.SeqAt.eqv_refl _ (by simp only [PyData.canLay0]; exact canP h)
theorem set_sort {K : PySem.W.Frag} {Pg : Program} {wd : World} {σ : L2.St} {H : Hp} {Q : VK} {fo : Addr} {i : Nat} {L : List (Addr × (Str × Str))} {D : List (Str × Str)} (hv : σ[i]? = some (some (V.ref fo))) (p : PairsAt H fo L) (hD : D.length < 64) (hin : ∀ q ∈ L.map (·.2), q ∈ D)
    (k : ∀ H2 a L3, Same H H2 → PairsAt H2 a L3 → SP.Rise (L3.map (·.2)) → (∀ p, p ∈ L3.map (·.2) ↔ p ∈ L.map (·.2)) → Q (.ref a) H2) : tCB (SP.rSortS Pg wd) (tCons (tCB (SP.rSetP K Pg wd) (tCons (tVar i) tNil)) tNil) σ H Q := by
  refine ⟨_, hv, fo, L, D, rfl, SqL.of p.1, p.2, hD, fun q hq => hin _ (List.mem_map.mpr ⟨q, hq, rfl⟩), fun a S ha sub all nd => ?_⟩
  have s1 : Same H (upd H a (SP.SetO Pg wd a S)) := Same.upd ha
  refine ⟨a, S, rfl, upd_same, fun q hq => s1 _ _ (p.2 q (sub q hq)), fun L3 b pm rise hx hb => ?_⟩
  refine k _ b L3 (s1.trans (Same.upd hb)) ⟨upd_same, fun x hxm => by rw [upd_ne (ne_of_none (hx x hxm) hb)]; exact hx x hxm⟩ rise fun q => pm.mem_iff.trans ⟨fun hq => ?_, fun hq => ?_⟩
  · obtain ⟨z, hz, rfl⟩ := List.mem_map.mp hq
    exact List.mem_map.mpr ⟨z, sub z hz, rfl⟩
  · obtain ⟨z, hz, rfl⟩ := List.mem_map.mp hq
    exact all z hz
def spLFR (h : Nat) : Sp := fun vs H Q _ => ∃ (l : Addr) (us : List V) (ts : List T) (D : List (Str × Str)), vs = [.ref l] ∧ H l = some (.lst us) ∧ AtL H us ts ∧ (∀ t ∈ ts, (∃ ns ks m, ok ns ks h m t) ∧ nz h t) ∧ (ts.flatMap (fr h)).length ≤ 100000 ∧ D.length < 64 ∧ (∀ p ∈ ts.flatMap (fr h), p ∈ D) ∧ ∀ H', Same H H' → Q (.bl true) H'
abbrev sFR : Stmt := top 28
abbrev nFR : List Str := ["_law_sayings", "_law_found", "_law_due", "_law_saying_here"]
theorem scFR : FnScope nFR ["_law_sayings"] (defScope sFR) := ⟨rfl, rfl, rfl, by decide +kernel, rfl, by decide +kernel, by decide +kernel⟩
section
variable {P : Program} {w : World} {K : PySem.W.Frag} {mg : Str → Option Value} {base : Heap} {f fn fi ff fl : Addr} {fd fdn fdi fdf fdl : FuncData}
theorem ok_lfr (h : Nat) (hh : h ≤ 12) (F : Fun K "_law_free_right" "_law_free_right" sFR f fd) (X : TxtL mg) (Fn : Fun K "note_names" "note_names" sNt fn fdn) (bn : Binds K fdn ["thing", "found"] []) (mn : mg "note_names" = some (.ref fn))
    (Fi : Fun K "inner_of" "inner_of" sIn fi fdi) (bi : Binds K fdi ["thing"] []) (mi : mg "inner_of" = some (.ref fi)) (Ff : Fun K "free_in" "free_in" (top 11) ff fdf) (bf : Binds K fdf ["sayings"] []) (mf : mg "free_in" = some (.ref ff))
    (Fl : Fun K "_law_free" "_law_free" sFr fl fdl) (bl : Binds K fdl ["_law_thing"] []) (ml : mg "_law_free" = some (.ref fl)) : FnOk P w K mg base CX0 (4 + h) f fd ["_law_sayings"] (spLFR h) := by
  rw [show 4 + h = (3 + h) + 1 by omega]
  refine F.ok scFR (fun vs H Q E h => ?_) (fun cdv A0 outer s H vs Q E hr hq => ?_)
  · obtain ⟨l, us, ts, D, rfl, _⟩ := h
    rfl
  obtain ⟨l, us, ts, D, rfl, hl, hL, hok, hlen, hD, hin, k⟩ := hq
  refine ⟨_, pss_cons (ps_set (i := 1) scFR.nd rfl (Or.inl rfl) (pe_call (ok_freeIn h Ff X Fn bn mn Fi bi mi) hr rfl mf Ff.kp bf .nil pass0 (pa_cons (pv 0) pa_nil)))
    (pss_cons (ps_set (i := 2) scFR.nd rfl (Or.inl rfl) (pe_lst pa_nil))
    (pss_cons (ps_for PassesOwn.never rfl (pi_list (pv 0)) (pg_name (i := 3) scFR.nd rfl (Or.inl rfl)) (pss_one (ps_set (i := 2) scFR.nd rfl (Or.inl rfl) (pe_op op_cat (pv 2) (pe_call (ok_lfree Fl bl ml X h) (hr.mono (by omega)) rfl ml Fl.kp bl .nil pass0 (pa_cons (pv 3) pa_nil))))))
    (pss_cons (ps_if (PW.pt (pw_or (pt_not (pt_val (pe_callB call_isi (by rfl) X.isi boot_isi (pa_cons (pv 1) (pa_cons (pe_bltn (v := .ty "list") rfl X.list boot_listT rfl) pa_nil)))))
      (pw_or1 (pt_cmpR (op_neD (u64 hr)) (pv 1) (pe_callB (SP.cr_sortS rfl) (by rfl) X.sorted boot_sorted (pa_cons (pe_callTy (SP.cr_setP rfl (u64 hr)) (by rfl) X.set boot_setT (pa_cons (pv 2) pa_nil)) pa_nil)) (nomark _)))))
      (pss_one (ps_ret pe_bl)) pss_nil)
    (pss_cons (ps_expr (pe_bm PySem.F.plainAttrs_list PySem.F.slot_list_append PySem.F.type_list_append mt_append (pv 1) (pa_cons (pe_tup (pa_cons pe_str (pa_cons pe_str pa_nil))) pa_nil)))
    (pss_one (ps_ret (pe_cmpR (op_eqD (u64 hr)) (pe_call (ok_freeIn h Ff X Fn bn mn Fi bi mi) hr rfl mf Ff.kp bf .nil pass0 (pa_cons (pv 0) pa_nil)) (pe_callB (SP.cr_sortS rfl) (by rfl) X.sorted boot_sorted (pa_cons (pe_callTy (SP.cr_setP rfl (u64 hr)) (by rfl) X.set boot_setT (pa_cons (pv 2) pa_nil)) pa_nil)) (nomark _)))))))), ?_⟩
  have gD : ∀ p ∈ ts.flatMap (fr h), G p.1 ∧ G p.2 := fun p hp => by
    obtain ⟨t, ht, hp⟩ := List.mem_flatMap.mp hp
    obtain ⟨⟨ns, ks, m, q⟩, _⟩ := hok t ht
    exact fr_G q p hp
  refine ⟨_, rfl, l, us, ts, D, rfl, hl, hL, hok, hlen, hD, hin, fun H1 L1 r1 s1 n1 p1 pm1 rise1 => ?_⟩
  refine ⟨Nat.zero_le _, fun u hu => ?_⟩
  have s2 : Same H1 (upd H1 u (.lst [])) := Same.upd hu
  refine ⟨_, rfl, l, rfl, ⟨_, SqL.of (s2 _ _ (s1 _ _ hl))⟩, for_list (xs := us) (fun i σ' H' => ∃ fo o L, σ' = [some (V.ref l), some (V.ref r1), some (V.ref fo), o] ∧ Same H1 H' ∧ PairsAt H' fo L ∧ H1 fo = none ∧ L.map (·.2) = (ts.take i).flatMap (fr h))
    ⟨u, none, [], rfl, s2, ⟨upd_same, fun q hq => nomatch hq⟩, hu, rfl⟩ (fun i σ' H' _ q => ?_) (fun i v σ' H' hv q => ?_) (fun σ' H' q => ?_)⟩
  · obtain ⟨_, _, _, _, sA, _⟩ := q
    exact SqL.of (sA _ _ (s1 _ _ hl))
  · obtain ⟨fo, o, L, rfl, sA, pL, nf, eL⟩ := q
    obtain ⟨t, ht, tA⟩ := hL.get hv
    obtain ⟨se, sl⟩ := flat_step (h := h) ht
    refine ⟨_, rfl, _, rfl, _, t, rfl, tA.mono (.same (s1.trans sA)), (hok t (List.mem_of_getElem? ht)).1, hh, fun H3 L2 r2 s3 hn pL2 e2 => ?_⟩
    have pL3 := pL.same s3
    have l1 : L.length ≤ 600000 := by rw [← List.length_map (f := (·.2)), eL]; omega
    have l2 : L2.length ≤ 600000 := by rw [← List.length_map (f := (·.2)), e2]; omega
    refine ⟨fo, r2, _, _, rfl, rfl, pL3.1, pL2.1, by rw [List.length_map, List.length_map]; exact Nat.le_trans (Nat.add_le_add l1 l2) (by decide), fun x hx => ?_⟩
    have s4 : Same H3 (upd H3 x (.lst (L.map (fun x => V.ref x.1) ++ L2.map fun x => V.ref x.1))) := Same.upd hx
    refine ⟨x, some v, L ++ L2, rfl, (sA.trans s3).trans s4, ⟨by rw [upd_same, List.map_append], fun q hq => ?_⟩, (sA.trans s3).free hx, by rw [List.map_append, eL, e2, se]⟩
    rcases List.mem_append.mp hq with hq | hq
    · exact s4 _ _ (pL3.2 q hq)
    · exact s4 _ _ (pL2.2 q hq)
  · obtain ⟨fo, o, L, rfl, sA, pL, nf, eL⟩ := q
    rw [hL.length, List.take_length] at eL
    have eIn : ∀ q ∈ L.map (·.2), q ∈ D := fun q hq => hin q (eL ▸ hq)
    have p1q : PairsAt H' r1 L1 := p1.same sA
    have eq3 : ∀ {L' L3 : List (Addr × (Str × Str))}, (L'.map (·.2)).Perm (addAll [] (ts.flatMap (fr h))) → SP.Rise (L'.map (·.2)) → SP.Rise (L3.map (·.2)) → (∀ p, p ∈ L3.map (·.2) ↔ p ∈ L.map (·.2)) → L'.map (·.2) = L3.map (·.2) := fun {L' L3} pm a b e => by
      refine SP.rise_unique a b fun q => ?_
      rw [e q, eL]
      exact pm.mem_iff.trans (mem_addAll.trans ⟨fun z => z.elim (fun z => nomatch z) id, .inr⟩)
    have gL : ∀ {L' : List (Addr × (Str × Str))}, (L'.map (·.2)).Perm (addAll [] (ts.flatMap (fr h))) → ∀ p ∈ L'.map (·.2), G p.1 ∧ G p.2 := fun {L'} pm p hp => gD p ((mem_addAll.mp (pm.mem_iff.mp hp)).elim (fun z => nomatch z) id)
    refine ⟨_, rfl, _, _, _, _, true, rfl, .ty _, .base (.lst p1q.1), rfl, true, rfl, iteF ?_⟩
    refine ⟨_, rfl, set_sort rfl pL hD eIn fun H2 a L3 s3 p3 rise3 e3 => ?_⟩
    have e13 : L1.map (·.2) = L3.map (·.2) := eq3 pm1 rise1 rise3 e3
    have g1 := gL pm1
    have g3 : ∀ p ∈ L3.map (·.2), G p.1 ∧ G p.2 := e13 ▸ g1
    refine ⟨_, _, (p1q.same s3).dp, p3.dp, shapedP g1, shapedP g3, false, ?_, iteF ?_⟩
    · rw [← e13, eqvP g1]; rfl
    have p1r : PairsAt H2 r1 L1 := p1q.same s3
    refine ⟨_, rfl, .inl ⟨rfl, _, SqL.of p1r.1⟩, by show 2 ≤ sizeLine; decide, fun tp htp => ?_⟩
    have s4 : Same H2 (upd H2 tp (.tup [.str "x", .str "x"])) := Same.upd htp
    refine ⟨_, _, _, rfl, rfl, s4 _ _ p1r.1, ?_, ?_⟩
    · have z := congrArg List.length e13
      have ll : L1.length ≤ 100000 := by
        rw [← List.length_map (f := (·.2)), pm1.length_eq]
        have := addAll_len [] (ts.flatMap (fr h))
        rw [List.length_nil] at this
        omega
      rw [List.length_map]
      exact Nat.lt_of_le_of_lt ll (by decide)
    have neR : ∀ {x : Addr} {u : HO}, H x = some u → x ≠ r1 := fun {x u} e => ne_of_none e n1
    have sH2 : Same H H2 := fun x u hx => s3 _ _ (sA _ _ (s1 _ _ hx))
    have s5 : Same H (upd (upd H2 tp (.tup [.str "x", .str "x"])) r1 (.lst ((L1.map fun x => V.ref x.1) ++ [.ref tp]))) := fun x u hx => by
      rw [upd_ne (neR hx)]
      exact s4 _ _ (sH2 _ _ hx)
    have neF : fo ≠ r1 := by
      intro e
      have := p1.1
      rw [← e, nf] at this
      cases this
    have pL5 : PairsAt (upd (upd H2 tp (.tup [.str "x", .str "x"])) r1 (.lst ((L1.map fun x => V.ref x.1) ++ [.ref tp]))) fo L := by
      refine ⟨?_, fun q hq => ?_⟩
      · rw [upd_ne neF]
        exact s4 _ _ (s3 _ _ pL.1)
      · have := s3 _ _ (pL.2 q hq)
        rw [upd_ne (fun e => ?_)]
        · exact s4 _ _ this
        · rw [e, p1r.1] at this
          cases this
    refine ⟨_, rfl, l, us, ts, D, rfl, s5 _ _ hl, hL.mono (.same s5), hok, hlen, hD, hin, fun H6 L6 r6 s6 n6 p6 pm6 rise6 => ?_⟩
    refine set_sort rfl (pL5.same s6) hD eIn fun H7 a7 L7 s7 p7 rise7 e7 => ?_
    have e67 : L6.map (·.2) = L7.map (·.2) := eq3 pm6 rise6 rise7 e7
    have g6 := gL pm6
    have g7 : ∀ p ∈ L7.map (·.2), G p.1 ∧ G p.2 := e67 ▸ g6
    refine ⟨_, _, (p6.same s7).dp, p7.dp, shapedP g6, shapedP g7, ?_⟩
    rw [← e67, eqvP g6]
    exact k _ ((s5.trans s6).trans s7)
end
end KD

/-! KDc: _law_seed, _law_state, _law_draw. -/
namespace KD
open PySem PySem.Spec PyProof.Rows L2 LamX NdefX LamF KM
/-- what is drawn from: two numbers, the first a small one -/
def StA (H : Hp) (p : Addr) : Prop := ∃ a b : Int, H p = some (.lst [.int a, .int b]) ∧ 0 ≤ a ∧ a < 2147483647 ∧ 0 ≤ b
theorem StA.same {H H' : Hp} {p : Addr} (h : StA H p) (e : Same H H') : StA H' p := by
  obtain ⟨a, b, h, r⟩ := h
  exact ⟨a, b, e _ _ h, r⟩
theorem StA.tupS {H H' : Hp} {p : Addr} (h : StA H p) (e : ButS p H H') : TupS H H' := by
  obtain ⟨a, b, h, _⟩ := h
  exact fun c xs hc => e c _ (ne_of hc h (by intro z; cases z)) hc
theorem ButS.refl {p : Addr} (H : Hp) : ButS p H H := fun _ _ _ h => h
theorem ButS.trans {p : Addr} {H H1 H2 : Hp} (a : ButS p H H1) (b : ButS p H1 H2) : ButS p H H2 := fun x o n h => b x o n (a x o n h)
theorem Same.but {p : Addr} {H H1 : Hp} (a : Same H H1) : ButS p H H1 := fun x o _ h => a x o h
theorem ButS.same {p : Addr} {H H1 H2 : Hp} (a : ButS p H H1) (b : Same H1 H2) : ButS p H H2 := fun x o n h => b x o (a x o n h)
theorem ButS.upd {p : Addr} {H : Hp} {o : HO} : ButS p H (upd H p o) := fun x u n h => by rw [upd_ne n]; exact h
theorem StA.mk {H : Hp} {p : Addr} {a b : Int} (h : H p = some (.lst [.int a, .int b])) (h1 : 0 ≤ a) (h2 : a < 2147483647) (h3 : 0 ≤ b) : StA H p := ⟨a, b, h, h1, h2, h3⟩
def spSeed (K : PySem.W.Frag) : Sp := fun vs H Q _ => ∃ (a : Addr) (xs : List Int), vs = [.ref a, .int 0] ∧ SqL K H a (xs.map V.int) ∧ ∀ i, Q (.int i) H
def spState : Sp := fun vs H Q _ => ∃ c : Int, vs = [.int c] ∧ ∀ p H', H p = none → Same H H' → StA H' p → Q (.ref p) H'
def spDraw : Sp := fun vs H Q _ => ∃ (p : Addr) (m : Nat), vs = [.ref p, .int m] ∧ StA H p ∧ 0 < m ∧ m < 1000000 ∧ ∀ (r : Nat) H', r < m → ButS p H H' → StA H' p → Q (.int r) H'
theorem scSeed : FnScope ["_law_script", "_law_k"] ["_law_script", "_law_k"] (defScope (top 13)) := ⟨rfl, rfl, rfl, by decide +kernel, rfl, by decide +kernel, by decide +kernel⟩
theorem scState : FnScope ["_law_cell"] ["_law_cell"] (defScope (top 14)) := ⟨rfl, rfl, rfl, by decide +kernel, rfl, by decide +kernel, by decide +kernel⟩
theorem scDraw : FnScope ["_law_state_here", "_law_many", "_law_drawn"] ["_law_state_here", "_law_many"] (defScope (top 15)) := ⟨rfl, rfl, rfl, by decide +kernel, rfl, by decide +kernel, by decide +kernel⟩
section
variable {P : Program} {w : World} {K : PySem.W.Frag} {mg : Str → Option Value} {base : Heap} {f fn fi ff fl : Addr} {fd fdn fdi fdf fdl : FuncData}
theorem ok_seed (F : Fun K "_law_seed" "_law_seed" (top 13) f fd) (X : TxtL mg) (k : Nat) : FnOk P w K mg base CX0 (1 + k) f fd ["_law_script", "_law_k"] (spSeed K) := by
  rw [show 1 + k = (0 + k) + 1 by omega]
  refine F.ok scSeed (fun vs H Q E h => ?_) (fun cdv A0 outer s H vs Q E hr hq => ?_)
  · obtain ⟨a, xs, rfl, _⟩ := h
    rfl
  obtain ⟨a, xs, rfl, ha, k⟩ := hq
  refine ⟨_, pss_cons (ps_if (pt_cmpR op_lt (pv 1) (pe_callB call_len_seq (by rfl) X.len PySem.boot_len (pa_cons (pv 0) pa_nil)) (nomark _)) (pss_one (ps_ret (pe_ix ix_list (pv 0) (pv 1) (fun _ _ => rfl)))) pss_nil)
    (pss_one (ps_ret (pe_op op_add (pe_op op_mul pe_int (pv 1)) pe_int))), ?_⟩
  refine ⟨_, rfl, _, rfl, _, _, rfl, .inl ha, _, _, rfl, rfl, _, rfl, ite2 (fun e => ?_) (fun e => ?_)⟩
  · match xs, of_decide_eq_true e, ha with
    | x :: xs, _, ha => exact ⟨_, rfl, _, rfl, _, _, _, _, rfl, rfl, ha, atI_nat (j := 0) rfl, k _⟩
  · exact ⟨_, rfl, _, _, rfl, rfl, .inl ⟨by decide, by decide⟩, _, _, rfl, rfl, k _⟩
theorem ok_state (F : Fun K "_law_state" "_law_state" (top 14) f fd) (X : TxtL mg) (k : Nat) : FnOk P w K mg base CX0 (1 + k) f fd ["_law_cell"] spState := by
  rw [show 1 + k = (0 + k) + 1 by omega]
  refine F.ok scState (fun vs H Q E h => ?_) (fun cdv A0 outer s H vs Q E hr hq => ?_)
  · obtain ⟨a, rfl, _⟩ := h
    rfl
  obtain ⟨c, rfl, k⟩ := hq
  refine ⟨_, pss_one (ps_ret (pe_lst (pa_cons (pe_op op_mod (pv 0) pe_int) (pa_cons (pe_callB (call_max2 rfl) (by rfl) X.max boot_max (pa_cons pe_int (pa_cons (pe_op op_sub (pv 0) (pe_op op_pow pe_int pe_int)) pa_nil))) pa_nil)))), ?_⟩
  refine ⟨_, rfl, _, _, rfl, rfl, by show (0 : Int) < 2147483647; decide, _, rfl, _, _, rfl, rfl, ⟨by decide, by decide, by decide⟩, _, _, rfl, rfl, _, _, rfl, by show 2 ≤ sizeLine; decide, fun p hp => ?_⟩
  refine k p _ hp (Same.upd hp) (.mk upd_same (Int.emod_nonneg _ (by decide)) (Int.emod_lt_of_pos _ (by decide)) ?_)
  split <;> omega
theorem ok_draw (F : Fun K "_law_draw" "_law_draw" (top 15) f fd) (k : Nat) : FnOk P w K mg base CX0 (1 + k) f fd ["_law_state_here", "_law_many"] spDraw := by
  rw [show 1 + k = (0 + k) + 1 by omega]
  refine F.ok scDraw (fun vs H Q E h => ?_) (fun cdv A0 outer s H vs Q E hr hq => ?_)
  · obtain ⟨p, m, rfl, _⟩ := h
    rfl
  obtain ⟨p, m, rfl, ⟨a, b, hp, a0, a1, b0⟩, m0, m1, k⟩ := hq
  refine ⟨_, pss_cons (ps_if (pt_cmpR op_gt (pe_ix ix_list (pv 0) pe_int (fun _ _ => rfl)) pe_int (nomark _))
      (pss_cons (ps_set (i := 2) scDraw.nd rfl (Or.inl rfl) (pe_op op_mod (pe_ix ix_list (pv 0) pe_int (fun _ _ => rfl)) (pv 1)))
      (pss_cons (ps_asg (pe_op op_fdiv (pe_ix ix_list (pv 0) pe_int (fun _ _ => rfl)) (pv 1)) (pg_sub (pv 0) pe_int set_list))
      (pss_one (ps_ret (pv 2))))) pss_nil)
    (pss_cons (ps_asg (pe_op op_mod (pe_op op_add (pe_op op_mul (pe_ix ix_list (pv 0) pe_int (fun _ _ => rfl)) pe_int) pe_int) pe_int) (pg_sub (pv 0) pe_int set_list))
    (pss_one (ps_ret (pe_op op_mod (pe_op op_fdiv (pe_ix ix_list (pv 0) pe_int (fun _ _ => rfl)) pe_int) (pv 1))))), ?_⟩
  have mI : (0 : Int) < (m : Int) := by omega
  refine ⟨_, rfl, _, _, _, _, rfl, rfl, SqL.of hp, rfl, _, _, rfl, rfl, _, rfl, ite2 (fun e => ?_) (fun e => ?_)⟩
  · refine ⟨_, rfl, _, _, _, _, rfl, rfl, SqL.of hp, rfl, _, rfl, _, _, rfl, rfl, mI, ?_⟩
    refine ⟨_, rfl, _, _, _, _, rfl, rfl, SqL.of hp, rfl, _, rfl, _, _, rfl, rfl, ⟨mI, by omega⟩, ?_⟩
    refine ⟨_, rfl, _, _, _, 1, rfl, rfl, hp, rfl, ?_⟩
    refine ⟨_, rfl, ?_⟩
    have h1 := Int.emod_nonneg b (show (m : Int) ≠ 0 by omega)
    have h2 := Int.emod_lt_of_pos b mI
    show Q (.int (b % (m : Int))) (upd H p (.lst [.int a, .int (b / m)]))
    rw [show b % (m : Int) = ((b % (m : Int)).toNat : Int) by omega]
    exact k _ _ (by omega) .upd (.mk (a := a) (b := b / m) upd_same a0 a1 (Int.ediv_nonneg b0 (by omega)))
  · refine ⟨_, rfl, _, _, _, _, rfl, rfl, SqL.of hp, rfl, _, _, rfl, rfl, .inr ⟨by decide, by decide⟩, _, _, rfl, rfl, _, _, rfl, rfl, by show (0 : Int) < 2147483647; decide, ?_⟩
    refine ⟨_, rfl, _, _, _, 0, rfl, rfl, hp, rfl, ?_⟩
    refine ⟨_, rfl, _, _, _, _, rfl, rfl, SqL.of upd_same, rfl, _, _, rfl, rfl, ⟨by decide, by decide⟩, _, rfl, _, _, rfl, rfl, mI, ?_⟩
    show Q (.int ((a * 48271 + 8191) % 2147483647 / 16 % (m : Int))) (upd H p (.lst [.int ((a * 48271 + 8191) % 2147483647), .int b]))
    generalize ((a * 48271 + 8191) % 2147483647 / 16 : Int) = z
    have h1 := Int.emod_nonneg z (show (m : Int) ≠ 0 by omega)
    have h2 := Int.emod_lt_of_pos z mI
    rw [show z % (m : Int) = ((z % (m : Int)).toNat : Int) by omega]
    exact k _ _ (by omega) .upd (.mk (a := (a * 48271 + 8191) % 2147483647) (b := b) upd_same (Int.emod_nonneg _ (by decide)) (Int.emod_lt_of_pos _ (by decide)) b0)
end
end KD

/-! KDd: _law_word. -/
namespace KD
open PySem PySem.Spec PyProof.Rows L2 LamX NdefX LamF KM
theorem lc_str {x : Str} {g : TG} {tt : TT} {te : TE} {vs : List Nat} {σ : L2.St} {H1 : Hp} {D : Addr} {Qd : Hp → Prop} (Pv : Nat → Hp → Prop) (h0 : Pv 0 (upd H1 D (.lst [])))
    (hs : ∀ i c H, x.cps[i]? = some c → Pv i H → g (.str ⟨#[c]⟩) (wipe σ vs) H fun σ2 H2 => wipe σ2 vs = wipe σ vs ∧ tt σ2 H2 fun b H3 =>
      if b = true then te σ2 H3 fun y H4 => ∃ acc, H4 D = some (.lst acc) ∧ acc.length < sizeLine ∧ Pv (i + 1) (upd H4 D (.lst (acc ++ [y]))) else Pv (i + 1) H3) (hd : ∀ H, Pv x.cps.size H → Qd H) :
    ∃ W : Nat → Nat → Hp → Prop, (∃ m, W 0 m (upd H1 D (.lst []))) ∧ ∀ i m H, W i m H →
      ((Its x).stop i H ∧ Qd H) ∨ ((Its x).go i H ∧ ∃ Nx : Hp → Prop, (∀ H', Nx H' → ∃ m', m' < m ∧ W (i + 1) m' H') ∧ ∀ y H', (Its x).yld i H y H' → g y (wipe σ vs) H' fun σ2 H2 => wipe σ2 vs = wipe σ vs ∧ tt σ2 H2 fun b H3 =>
        if b = true then te σ2 H3 fun y H4 => ∃ acc, H4 D = some (.lst acc) ∧ acc.length < sizeLine ∧ Nx (upd H4 D (.lst (acc ++ [y]))) else Nx H3) := by
  refine ⟨fun i m H => m = x.cps.size - i ∧ i ≤ x.cps.size ∧ Pv i H, ⟨x.cps.size, by simp, Nat.zero_le _, h0⟩, ?_⟩
  rintro i m H ⟨rfl, hi, p⟩
  by_cases hlt : i < x.cps.size
  · refine .inr ⟨hlt, Pv (i + 1), fun H' p' => ⟨x.cps.size - (i + 1), by omega, rfl, hlt, p'⟩, fun y H' yy => ?_⟩
    obtain ⟨e, c, hc, ey⟩ := yy
    subst e ey
    exact hs i c _ hc p
  · have e : i = x.cps.size := by omega
    subst e
    exact .inl ⟨Nat.le_refl _, hd H p⟩
theorem inV_str {x : Str} : ∀ {l : List Str}, inV (.str x) (l.map V.str) = decide (x ∈ l)
  | [] => rfl
  | y :: l => by
    have ih := inV_str (x := x) (l := l)
    unfold inV at ih ⊢
    rw [List.map_cons, List.any_cons, ih]
    show ((y == x) || decide (x ∈ l)) = _
    by_cases e : y = x
    · subst e
      simp
    · simp [e, Ne.symm e]
theorem flat_strs : ∀ (l : List Str), (l.map V.str).all flatV = true
  | [] => rfl
  | _ :: l => by rw [List.map_cons, List.all_cons, flat_strs l] <;> rfl
def lets : Str := "abcdefghijklmnopqrstuvwxyz"
def ltrs : List Str := lets.cps.toList.map fun c => ⟨#[c]⟩
def seven : List Str := ["no", "not", "and", "or", "so", "all", "some"]
theorem lets_size : lets.cps.size = 26 := by decide +kernel
theorem ltrs_nd : ltrs.Nodup := by decide +kernel
theorem ltrs_7 : ∀ x ∈ ltrs, x ∉ seven := by decide +kernel
theorem lets_in : ∀ c ∈ lets.cps.toList, 97 ≤ c ∧ c ≤ 122 := by decide +kernel
theorem G_one {c : Nat} (h : c ∈ lets.cps.toList) : G ⟨#[c]⟩ := ⟨by show 1 ≤ 8; decide, fun d hd => by
  rw [List.mem_singleton.mp (show d ∈ [c] from hd)]
  exact lets_in c h⟩
/-- a letter that is none of few words -/
theorem free_letter {os : List Str} (h : os.length ≤ 25) : ltrs.filter (fun x => !decide (x ∈ os ++ seven)) ≠ [] := by
  intro e
  have z : ∀ x ∈ ltrs, x ∈ os := fun x hx => by
    have q := List.filter_eq_nil_iff.mp e x hx
    have q2 : x ∈ os ++ seven := by
      by_cases d : x ∈ os ++ seven
      · exact d
      · rw [decide_eq_false d] at q
        exact absurd rfl q
    rcases List.mem_append.mp q2 with h | h
    · exact h
    · exact absurd h (ltrs_7 x hx)
  have := SP.nd_len ltrs os ltrs_nd z
  rw [show ltrs.length = 26 by decide +kernel] at this
  omega
def spWord : Sp := fun vs H Q _ => ∃ (p o : Addr) (os : List Str), vs = [.ref p, .ref o] ∧ StA H p ∧ H o = some (.lst (os.map V.str)) ∧ o ≠ p ∧ os.length ≤ 25 ∧ ∀ x H', G x → ButS p H H' → StA H' p → Q (.str x) H'
abbrev nWo : List Str := ["_law_state_here", "_law_others", "_law_letters", "_law_barred", "_law_word_here", "_law_k", "_law_letter"]
theorem scWo : FnScope nWo ["_law_state_here", "_law_others"] (defScope (top 16)) := ⟨rfl, rfl, rfl, by decide +kernel, rfl, by decide +kernel, by decide +kernel⟩
section
variable {P : Program} {w : World} {K : PySem.W.Frag} {mg : Str → Option Value} {base : Heap} {f fd' : Addr} {fd fdd : FuncData}
theorem ok_word (F : Fun K "_law_word" "_law_word" (top 16) f fd) (Fd : Fun K "_law_draw" "_law_draw" (top 15) fd' fdd) (bd : Binds K fdd ["_law_state_here", "_law_many"] []) (md : mg "_law_draw" = some (.ref fd')) (X : TxtL mg) (k : Nat) : FnOk P w K mg base CX0 (2 + k) f fd ["_law_state_here", "_law_others"] spWord := by
  rw [show 2 + k = (1 + k) + 1 by omega]
  refine F.ok scWo (fun vs H Q E h => ?_) (fun cdv A0 outer s H vs Q E hr hq => ?_)
  · obtain ⟨p, o, os, rfl, _⟩ := h
    rfl
  obtain ⟨p, o, os, rfl, hp, ho, ne, hl, k⟩ := hq
  refine ⟨_, pss_cons (ps_set (i := 2) scWo.nd rfl (Or.inl rfl) pe_str)
    (pss_cons (ps_set (i := 3) scWo.nd rfl (Or.inr rfl) (pe_op op_cat (pv 1) (pe_lst (pa_cons pe_str (pa_cons pe_str (pa_cons pe_str (pa_cons pe_str (pa_cons pe_str (pa_cons pe_str (pa_cons pe_str pa_nil))))))))))
    (pss_cons (ps_set (i := 4) scWo.nd rfl (Or.inl rfl) pe_str)
    (pss_cons (ps_for PassesOwn.never rfl (pi_range1 rfl X.rng (pa_cons (pe_op op_add pe_int (pe_op op_mul (pe_call (ok_draw Fd _) hr rfl md Fd.kp bd .nil pass0 (pa_cons (pv 0) (pa_cons pe_int pa_nil))) (pe_call (ok_draw Fd _) hr rfl md Fd.kp bd .nil pass0 (pa_cons (pv 0) (pa_cons pe_int pa_nil))))) pa_nil))
      (pg_name (i := 5) scWo.nd rfl (Or.inl rfl)) (pss_one (ps_set (i := 4) scWo.nd rfl (Or.inl rfl) (pe_op op_add_str (pv 4) (pe_ix ix_str (pv 2) (pe_call (ok_draw Fd _) hr rfl md Fd.kp bd .nil pass0 (pa_cons (pv 0) (pa_cons pe_int pa_nil))) (fun _ _ => rfl))))))
    (pss_cons (ps_if (pt_cmpR op_in_seq (pv 4) (pv 3) (by rfl)) (pss_one (ps_set (i := 4) scWo.nd rfl (Or.inl rfl) (pe_ix ix_list
        (pe_lc (own := [("_law_letter", 6)]) (g := gName 6) (tt := tTest (tOp (rIn K true) (tVar 6) (tVar 3))) rfl scWo.nd (pi_str (pv 2)) (blkOk_by (N := nWo) (sc := defScope (top 16)) (by decide +kernel)) (fun _ _ _ _ _ => pg_name (i := 6) scWo.nd rfl (Or.inl rfl)) (fun _ _ _ _ _ => pts_one (pt_cmpR op_notIn_seq (pv 6) (pv 3) (by rfl)))
          (fun _ _ _ _ _ => pv 6)) pe_int (fun _ _ => rfl)))) pss_nil)
    (pss_one (ps_ret (pv 4))))))), ?_⟩
  have ltsz : lets.cps.size = 26 := lets_size
  refine ⟨_, rfl, by show 7 ≤ sizeLine; decide, fun t7 ht7 => ?_⟩
  have s1 : Same H (upd H t7 (.lst [.str "no", .str "not", .str "and", .str "or", .str "so", .str "all", .str "some"])) := Same.upd ht7
  refine ⟨o, t7, _, _, rfl, rfl, s1 _ _ ho, upd_same, ?_, fun b hb => ?_⟩
  · rw [List.length_map]
    exact Nat.le_trans (show os.length + 7 ≤ 1000 by omega) (by decide)
  have s02 : Same H (upd (upd H t7 (.lst [.str "no", .str "not", .str "and", .str "or", .str "so", .str "all", .str "some"])) b (.lst (os.map V.str ++ [.str "no", .str "not", .str "and", .str "or", .str "so", .str "all", .str "some"]))) := s1.trans (Same.upd hb)
  have hb1 : (upd (upd H t7 (.lst [.str "no", .str "not", .str "and", .str "or", .str "so", .str "all", .str "some"])) b (.lst (os.map V.str ++ [.str "no", .str "not", .str "and", .str "or", .str "so", .str "all", .str "some"]))) b = some (.lst ((os ++ seven).map V.str)) := by
    rw [upd_same, List.map_append]
    rfl
  have neb : b ≠ p := by
    intro e
    obtain ⟨_, _, z, _⟩ := hp
    rw [e] at hb
    have := s1 _ _ z
    rw [hb] at this
    cases this
  have hp2 := hp.same s02
  generalize upd (upd H t7 (.lst [.str "no", .str "not", .str "and", .str "or", .str "so", .str "all", .str "some"])) b (.lst (os.map V.str ++ [.str "no", .str "not", .str "and", .str "or", .str "so", .str "all", .str "some"])) = H1 at s02 hb1 hp2 ⊢
  clear hb s1 ht7
  refine ⟨_, rfl, p, 2, rfl, hp2, by decide, by decide, fun r1 H2 l1 b2 p2 => ?_⟩
  refine ⟨_, rfl, p, 8, rfl, p2, by decide, by decide, fun r2 H3 l2 b3 p3 => ?_⟩
  have pr : r1 * r2 ≤ 7 := Nat.le_trans (Nat.mul_le_mul (show r1 ≤ 1 by omega) (show r2 ≤ 7 by omega)) (by decide)
  have b13 := b2.trans b3
  have hb3 := b13 _ _ neb hb1
  have b03 : ButS p H H3 := (Same.but s02).trans b13
  have nn : ((1 : Int) + (r1 : Int) * (r2 : Int)).toNat ≤ 8 := by
    have : ((r1 * r2 : Nat) : Int) = (r1 : Int) * (r2 : Int) := Int.natCast_mul _ _
    omega
  have nj : (0 : Int) ≤ (1 : Int) + (r1 : Int) * (r2 : Int) ∧ (1 : Int) + (r1 : Int) * (r2 : Int) ≤ 8 := by
    have : ((r1 * r2 : Nat) : Int) = (r1 : Int) * (r2 : Int) := Int.natCast_mul _ _
    omega
  refine ⟨_, _, rfl, rfl, .inl ⟨by omega, by omega⟩, _, _, rfl, rfl, _, rfl, ?_, ?_, ?_⟩
  · show -(2 ^ 62) ≤ (1 : Int) + (r1 : Int) * (r2 : Int)
    omega
  · show (1 : Int) + (r1 : Int) * (r2 : Int) < 2 ^ 62
    omega
  refine for_range (fun i σ' H' => ∃ x kk, σ' = [some (V.ref p), some (V.ref o), some (V.str lets), some (V.ref b), some (V.str x), kk, none] ∧ x.cps.toList.length ≤ i ∧ (∀ c ∈ x.cps.toList, 97 ≤ c ∧ c ≤ 122) ∧ ButS p H3 H' ∧ StA H' p)
    ⟨_, none, rfl, Nat.le_refl _, (fun c hc => nomatch (show c ∈ ([] : List Nat) from hc)), .refl H3, p3⟩ (fun i σ' H' hi q => ?_) (fun σ' H' q => ?_)
  · obtain ⟨x, kk, rfl, lx, cx, b4, p4⟩ := q
    have hi8 : i < 8 := Nat.lt_of_lt_of_le hi nn
    refine ⟨_, rfl, _, rfl, _, rfl, p, 26, rfl, p4, by decide, by decide, fun r3 H5 l3 b5 p5 => ?_⟩
    obtain ⟨c, hc⟩ : ∃ c, lets.cps.toList[r3]? = some c := ⟨_, List.getElem?_eq_getElem (by rw [Array.length_toList, ltsz]; exact l3)⟩
    refine ⟨lets, _, c, rfl, rfl, by show lets.cps.size ≤ sizeLine; rw [ltsz]; decide, atI_nat hc, ?_⟩
    have la : (x ++ (⟨#[c]⟩ : Str)).cps.toList = x.cps.toList ++ [c] := by
      show (x.cps ++ #[c]).toList = _
      rw [Array.toList_append]
    refine ⟨_, _, rfl, rfl, ?_, x ++ ⟨#[c]⟩, _, rfl, ?_, fun d hd => ?_, b4.trans b5, p5⟩
    · show x.cps.size + 1 ≤ sizeLine
      rw [← Array.length_toList]
      exact Nat.le_trans (show _ ≤ 1000 by omega) (by decide)
    · rw [la, List.length_append]
      show _ + 1 ≤ _
      omega
    · rw [la] at hd
      rcases List.mem_append.mp hd with h | h
      · exact cx d h
      · rw [List.mem_singleton.mp h]
        exact lets_in c (List.mem_of_getElem? hc)
  · obtain ⟨x, kk, rfl, lx, cx, b4, p4⟩ := q
    have gx : G x := ⟨Nat.le_trans lx nn, cx⟩
    have hb4 := b4 _ _ neb hb3
    refine ⟨_, rfl, _, rfl, b, _, rfl, .inl (SqL.of hb4), rfl, flat_strs _, _, rfl, ite2 (fun e => ?_) (fun e => ?_)⟩
    · refine ⟨_, rfl, lets, rfl, fun D hD => ?_⟩
      refine lc_str (fun i H5 => Same H' H5 ∧ H5 D = some (.lst (((ltrs.take i).filter fun x => !decide (x ∈ os ++ seven)).map V.str))) ⟨Same.upd hD, by rw [upd_same]; rfl⟩ (fun i c H5 hc q => ?_) (fun H5 q => ?_)
      · obtain ⟨s5, h5⟩ := q
        have hl2 : ltrs[i]? = some ⟨#[c]⟩ := by
          unfold ltrs
          rw [List.getElem?_map, Array.getElem?_toList, hc]
          rfl
        have i26 : i < 26 := by
          have := (List.getElem?_eq_some_iff.mp hl2).1
          rw [show ltrs.length = 26 by decide +kernel] at this
          exact this
        have tk : (ltrs.take (i + 1)).filter (fun x => !decide (x ∈ os ++ seven)) = (ltrs.take i).filter (fun x => !decide (x ∈ os ++ seven)) ++ [(⟨#[c]⟩ : Str)].filter (fun x => !decide (x ∈ os ++ seven)) := by
          rw [List.take_succ, hl2, List.filter_append]
          rfl
        refine ⟨rfl, _, rfl, _, rfl, b, _, rfl, .inl (SqL.of (s5 _ _ hb4)), rfl, flat_strs _, _, rfl, ?_⟩
        rw [if_pos rfl, inV_str]
        refine ite2 (fun e => ?_) (fun e => ?_)
        · refine ⟨_, rfl, _, h5, ?_, fun x u hx => ?_, ?_⟩
          · rw [List.length_map]
            refine Nat.lt_of_le_of_lt (List.length_filter_le _ _) ?_
            rw [List.length_take]
            exact Nat.lt_of_le_of_lt (show _ ≤ 26 by omega) (by decide)
          · rw [upd_ne (ne_of_none hx hD)]
            exact s5 _ _ hx
          · rw [upd_same, tk, List.filter_cons, if_pos e, List.map_append]
            rfl
        · refine ⟨s5, ?_⟩
          rw [h5, tk, List.filter_cons, if_neg e, List.filter_nil, List.append_nil]
      · obtain ⟨s5, h5⟩ := q
        rw [show lets.cps.size = ltrs.length by decide +kernel, List.take_length] at h5
        have nef := free_letter hl
        generalize hf : ltrs.filter (fun x => !decide (x ∈ os ++ seven)) = fl at h5 nef
        match fl, nef with
        | y :: fl, _ =>
          have hy : y ∈ ltrs := (List.mem_filter.mp (show y ∈ ltrs.filter _ by rw [hf]; exact List.mem_cons_self)).1
          obtain ⟨c, hc, rfl⟩ := List.mem_map.mp hy
          exact ⟨_, _, _, _, rfl, rfl, SqL.of h5, atI_nat (j := 0) rfl, _, rfl, k _ _ (G_one hc) ((b03.trans b4).same s5) (p4.same s5)⟩
    · exact ⟨_, rfl, k x _ gx (b03.trans b4) p4⟩
end
end KD

/-! KDe: _law_kinds. -/
namespace KD
open PySem PySem.Spec PyProof.Rows L2 LamX NdefX LamF KM
/-- all stays but what M names -/
def Mu (M : List Addr) (H H' : Hp) : Prop := ∀ a o, a ∉ M → H a = some o → H' a = some o
theorem Mu.refl {M : List Addr} (H : Hp) : Mu M H H := fun _ _ _ h => h
theorem Mu.trans {M : List Addr} {H H1 H2 : Hp} (a : Mu M H H1) (b : Mu M H1 H2) : Mu M H H2 := fun x o n h => b x o n (a x o n h)
theorem Mu.same {M : List Addr} {H H1 : Hp} (a : Same H H1) : Mu M H H1 := fun x o _ h => a x o h
theorem Mu.but {M : List Addr} {p : Addr} {H H1 : Hp} (a : ButS p H H1) (h : p ∈ M) : Mu M H H1 := fun x o n e => a x o (fun z => n (z ▸ h)) e
theorem Mu.upd {M : List Addr} {x : Addr} {H : Hp} {o : HO} (h : x ∈ M) : Mu M H (L2.upd H x o) := fun y u n e => by rw [upd_ne (fun z => n (by rw [z]; exact h))]; exact e
theorem Mu.new {M : List Addr} {x : Addr} {H : Hp} {o : HO} (h : H x = none) : Mu M H (L2.upd H x o) := fun y u n e => by rw [upd_ne (ne_of_none e h)]; exact e
theorem Mu.sub {M N : List Addr} {H H1 : Hp} (a : Mu M H H1) (h : ∀ x ∈ M, x ∈ N) : Mu N H H1 := fun x o n e => a x o (fun z => n (h x z)) e
/-- behind x, new in H, the rest of M is left -/
theorem Mu.old {M : List Addr} {x : Addr} {H H1 : Hp} (a : Mu (x :: M) H H1) (h : H x = none) : Mu M H H1 := fun y o n e => a y o (fun z => (List.mem_cons.mp z).elim (fun w => ne_of_none e h w) n) e
/-- o stands at a, and stays -/
def Sb (M : List Addr) (H : Hp) (a : Addr) (o : HO) : Prop := H a = some o ∧ a ∉ M
theorem Sb.mono {M : List Addr} {H H' : Hp} {a : Addr} {o : HO} (h : Sb M H a o) (m : Mu M H H') : Sb M H' a o := ⟨m _ _ h.2 h.1, h.2⟩
theorem Sb.fresh {M : List Addr} {H : Hp} {a x : Addr} {o : HO} (h : Sb M H a o) (hx : H x = none) : Sb (x :: M) H a o := ⟨h.1, fun z => (List.mem_cons.mp z).elim (fun w => ne_of_none h.1 hx w) h.2⟩
theorem Sb.drop {M N : List Addr} {H : Hp} {a : Addr} {o : HO} (h : Sb M H a o) (s : ∀ x ∈ N, x ∈ M) : Sb N H a o := ⟨h.1, fun z => h.2 (s _ z)⟩
theorem Sb.new {M : List Addr} {H : Hp} {a : Addr} {o : HO} (ha : H a = none) (hM : ∀ x ∈ M, H x ≠ none) : Sb M (upd H a o) a o := ⟨upd_same, fun z => hM a z ha⟩
/-- a maker's row: its name, what it takes -/
def MAt (M : List Addr) (ks : List Str) (H : Hp) (v : V) : Prop := ∃ (b tk : Addr) (x : Str) (ts : List Str), v = .ref b ∧ Sb M H b (.tup [.str x, .ref tk]) ∧ Sb M H tk (.lst (ts.map V.str)) ∧ G x ∧ ts.length ≤ 3 ∧ ∀ y ∈ ts, y ∈ ks
def KAt (M : List Addr) (ks : List Str) (H : Hp) (v : V) : Prop := ∃ (a mk : Addr) (x : Str) (ms : List V), v = .ref a ∧ Sb M H a (.tup [.str x, .ref mk]) ∧ Sb M H mk (.lst ms) ∧ x ∈ ks ∧ ms.length ≤ 3 ∧ ∀ m ∈ ms, MAt M ks H m
theorem MAt.mono {M : List Addr} {ks : List Str} {H H' : Hp} {v : V} (h : MAt M ks H v) (m : Mu M H H') : MAt M ks H' v := by
  obtain ⟨b, tk, x, ts, e, h1, h2, r⟩ := h
  exact ⟨b, tk, x, ts, e, h1.mono m, h2.mono m, r⟩
theorem MAt.fresh {M : List Addr} {ks : List Str} {H : Hp} {v : V} {x : Addr} (h : MAt M ks H v) (hx : H x = none) : MAt (x :: M) ks H v := by
  obtain ⟨b, tk, y, ts, e, h1, h2, r⟩ := h
  exact ⟨b, tk, y, ts, e, h1.fresh hx, h2.fresh hx, r⟩
theorem MAt.drop {M N : List Addr} {ks : List Str} {H : Hp} {v : V} (h : MAt M ks H v) (s : ∀ x ∈ N, x ∈ M) : MAt N ks H v := by
  obtain ⟨b, tk, y, ts, e, h1, h2, r⟩ := h
  exact ⟨b, tk, y, ts, e, h1.drop s, h2.drop s, r⟩
theorem MAt.more {M : List Addr} {ks kt : List Str} {H : Hp} {v : V} (h : MAt M ks H v) (s : ∀ x ∈ ks, x ∈ kt) : MAt M kt H v := by
  obtain ⟨b, tk, y, ts, e, h1, h2, r, l, z⟩ := h
  exact ⟨b, tk, y, ts, e, h1, h2, r, l, fun q hq => s q (z q hq)⟩
theorem KAt.mono {M : List Addr} {ks : List Str} {H H' : Hp} {v : V} (h : KAt M ks H v) (m : Mu M H H') : KAt M ks H' v := by
  obtain ⟨b, tk, x, ts, e, h1, h2, r, l, z⟩ := h
  exact ⟨b, tk, x, ts, e, h1.mono m, h2.mono m, r, l, fun q hq => (z q hq).mono m⟩
theorem KAt.fresh {M : List Addr} {ks : List Str} {H : Hp} {v : V} {x : Addr} (h : KAt M ks H v) (hx : H x = none) : KAt (x :: M) ks H v := by
  obtain ⟨b, tk, y, ts, e, h1, h2, r, l, z⟩ := h
  exact ⟨b, tk, y, ts, e, h1.fresh hx, h2.fresh hx, r, l, fun q hq => (z q hq).fresh hx⟩
theorem KAt.drop {M N : List Addr} {ks : List Str} {H : Hp} {v : V} (h : KAt M ks H v) (s : ∀ x ∈ N, x ∈ M) : KAt N ks H v := by
  obtain ⟨b, tk, y, ts, e, h1, h2, r, l, z⟩ := h
  exact ⟨b, tk, y, ts, e, h1.drop s, h2.drop s, r, l, fun q hq => (z q hq).drop s⟩
theorem KAt.more {M : List Addr} {ks kt : List Str} {H : Hp} {v : V} (h : KAt M ks H v) (s : ∀ x ∈ ks, x ∈ kt) : KAt M kt H v := by
  obtain ⟨b, tk, y, ts, e, h1, h2, r, l, z⟩ := h
  exact ⟨b, tk, y, ts, e, h1, h2, s _ r, l, fun q hq => (z q hq).more s⟩
/-! ### as data -/
theorem strs_dp {K : PySem.W.Frag} {H : Hp} : ∀ (ts : List Str), DpAll K H (ts.map V.str) (ts.map PyData.str)
  | [] => .nil
  | t :: ts => .cons (.str t) (strs_dp ts)
theorem can_strs : ∀ {ts : List Str}, (∀ x ∈ ts, G x) → PyData.canLayAll0 (ts.map PyData.str) = true
  | [], _ => by simp only [List.map_nil, PyData.canLayAll0]
  | t :: ts, h => by
    simp only [List.map_cons, PyData.canLayAll0, PyData.canLay0, Bool.and_eq_true]
    exact ⟨G.strOk (h t List.mem_cons_self), can_strs fun x hx => h x (List.mem_cons_of_mem _ hx)⟩
theorem dep_strs : ∀ (ts : List Str), PyData.depthAll (ts.map PyData.str) = 0
  | [] => by simp [PyData.depthAll]
  | t :: ts => by
    simp only [List.map_cons, PyData.depthAll, dep_strs ts, PyData.depth]
    rfl
theorem shaped_strs {ts : List Str} (h : ∀ x ∈ ts, G x) : SeqAt.shaped (.list (ts.map PyData.str)) = true := by
  unfold SeqAt.shaped
  have c : (PyData.list (ts.map PyData.str)).canLay0 = true := by
    simp only [PyData.canLay0]
    exact can_strs h
  rw [c, Bool.true_and]
  refine decide_eq_true ?_
  simp only [PyData.depth, dep_strs]
  omega
theorem mAt_dp {K : PySem.W.Frag} {M : List Addr} {ks : List Str} {H : Hp} (hk : ∀ x ∈ ks, G x) : ∀ {ms : List V}, (∀ m ∈ ms, MAt M ks H m) → ∃ ds, DpAll K H ms ds ∧ PyData.canLayAll0 ds = true ∧ PyData.depthAll ds ≤ 2
  | [], _ => ⟨[], .nil, by simp only [PyData.canLayAll0], by simp [PyData.depthAll]⟩
  | m :: ms, h => by
    obtain ⟨b, tk, x, ts, rfl, h1, h2, g, l, z⟩ := h m List.mem_cons_self
    obtain ⟨ds, d1, d2, d3⟩ := mAt_dp hk (ms := ms) fun q hq => h q (List.mem_cons_of_mem _ hq)
    refine ⟨.tuple [.str x, .list (ts.map PyData.str)] :: ds, .cons (.tup (SqT.of h1.1) (.cons (.str x) (.cons (.lst (SqL.of h2.1) (strs_dp ts)) .nil))) d1, ?_, ?_⟩
    · simp only [PyData.canLayAll0, PyData.canLay0, Bool.and_eq_true]
      exact ⟨⟨G.strOk g, can_strs fun y hy => hk y (z y hy), trivial⟩, d2⟩
    · simp only [PyData.depthAll, PyData.depth, dep_strs]
      omega
theorem mAt_list {K : PySem.W.Frag} {M : List Addr} {ks : List Str} {H : Hp} {mk : Addr} {ms : List V} (hk : ∀ x ∈ ks, G x) (h : H mk = some (.lst ms)) (hm : ∀ m ∈ ms, MAt M ks H m) : ∃ d, Dp K H (.ref mk) d ∧ SeqAt.shaped d = true := by
  obtain ⟨ds, d1, d2, d3⟩ := mAt_dp (K := K) hk hm
  refine ⟨.list ds, .lst (SqL.of h) d1, ?_⟩
  unfold SeqAt.shaped
  have c : (PyData.list ds).canLay0 = true := by
    simp only [PyData.canLay0]
    exact d2
  rw [c, Bool.true_and]
  refine decide_eq_true ?_
  simp only [PyData.depth]
  omega
def spKinds : Sp := fun vs H Q _ => ∃ (p t : Addr), vs = [.ref p, .ref t] ∧ StA H p ∧ H t = some (.lst []) ∧ t ≠ p ∧
  ∀ (kk : Addr) (H' : Hp) (ks : List Str) (us : List V) (os : List Str), Mu [p, t] H H' → StA H' p → H' t = some (.lst (os.map V.str)) → os.length ≤ 16 → H kk = none → Sb [p, t] H' kk (.lst us) → us.length = ks.length → 1 ≤ ks.length → ks.length ≤ 4 → (∀ x ∈ ks, G x) → (∀ v ∈ us, KAt [p, t] ks H' v) → Q (.ref kk) H'
abbrev nKi : List Str := ["_law_state_here", "_law_taken", "_law_kinds_here", "_law_k", "_law_name", "_law_told", "_law_makers", "_law_j", "_law_maker", "_law_takes", "_law_i", "_law_some", "_law_kind"]
theorem scKi : FnScope nKi ["_law_state_here", "_law_taken"] (defScope (top 17)) := ⟨rfl, rfl, rfl, by decide +kernel, rfl, by decide +kernel, by decide +kernel⟩
section
variable {P : Program} {w : World} {K : PySem.W.Frag} {mg : Str → Option Value} {base : Heap} {f fr' fw : Addr} {fd fdd fdw : FuncData}
theorem ok_kinds (F : Fun K "_law_kinds" "_law_kinds" (top 17) f fd) (Fd : Fun K "_law_draw" "_law_draw" (top 15) fr' fdd) (bd : Binds K fdd ["_law_state_here", "_law_many"] []) (md : mg "_law_draw" = some (.ref fr'))
    (Fw : Fun K "_law_word" "_law_word" (top 16) fw fdw) (bw : Binds K fdw ["_law_state_here", "_law_others"] []) (mw : mg "_law_word" = some (.ref fw)) (X : TxtL mg) (k : Nat) : FnOk P w K mg base CX0 (3 + k) f fd ["_law_state_here", "_law_taken"] spKinds := by
  rw [show 3 + k = (2 + k) + 1 by omega]
  refine F.ok scKi (fun vs H Q E h => ?_) (fun cdv A0 outer s H vs Q E hr hq => ?_)
  · obtain ⟨p, t, rfl, _⟩ := h
    rfl
  obtain ⟨p, t, rfl, hp, ht, ne, kq⟩ := hq
  refine ⟨_, /-T-/(pss_cons (ps_set (i := 2) scKi.nd rfl (Or.inl rfl) (pe_lst pa_nil))
      (pss_cons (ps_for PassesOwn.never rfl (pi_range1 rfl X.rng (pa_cons (pe_op op_add pe_int (pe_call (ok_draw Fd k) (hr.mono (by omega)) rfl md Fd.kp bd .nil pass0 (pa_cons (pv 0) (pa_cons pe_int pa_nil)))) pa_nil)) (pg_name (i := 3) scKi.nd rfl (Or.inl rfl)) (pss_cons (ps_set (i := 4) scKi.nd rfl (Or.inl rfl) (pe_call (ok_word Fw Fd bd md X _) hr rfl mw Fw.kp bw .nil pass0 (pa_cons (pv 0) (pa_cons (pv 1) pa_nil))))
      (pss_cons (ps_expr (pe_bm PySem.F.plainAttrs_list PySem.F.slot_list_append PySem.F.type_list_append mt_append (pv 1) (pa_cons (pv 4) pa_nil)))
      (pss_cons (ps_setLc (i := 5) (own := [("_law_kind", 12)]) (g := gName 12) (tt := tTest (tOp (rNeD K) (tOp (rIxT K) (tVar 12) (tC (V.int 1))) (tLst tNil))) (te := tOp (rIxT K) (tVar 12) (tC (V.int 0))) rfl scKi.nd rfl rfl rfl (pi_list (pv 2)) (blkOk_by (N := nKi) (sc := defScope (top 17)) (by decide +kernel)) (fun _ _ _ _ _ => pg_name (i := 12) scKi.nd rfl (Or.inl rfl)) (fun _ _ _ _ _ => pts_one (pt_cmpR (op_neD (u64 hr)) (pe_ix ix_tup (pv 12) pe_int (fun _ _ => rfl)) (pe_lst pa_nil) (nomark _))) (fun _ _ _ _ _ => (pe_ix ix_tup (pv 12) pe_int (fun _ _ => rfl))))
      (pss_cons (ps_set (i := 6) scKi.nd rfl (Or.inl rfl) (pe_lst pa_nil))
      (pss_cons (ps_for PassesOwn.never rfl (pi_range1 rfl X.rng (pa_cons (pe_call (ok_draw Fd k) (hr.mono (by omega)) rfl md Fd.kp bd .nil pass0 (pa_cons (pv 0) (pa_cons pe_int pa_nil))) pa_nil)) (pg_name (i := 7) scKi.nd rfl (Or.inl rfl)) (pss_cons (ps_set (i := 8) scKi.nd rfl (Or.inl rfl) (pe_call (ok_word Fw Fd bd md X _) hr rfl mw Fw.kp bw .nil pass0 (pa_cons (pv 0) (pa_cons (pv 1) pa_nil))))
      (pss_cons (ps_expr (pe_bm PySem.F.plainAttrs_list PySem.F.slot_list_append PySem.F.type_list_append mt_append (pv 1) (pa_cons (pv 8) pa_nil)))
      (pss_cons (ps_set (i := 9) scKi.nd rfl (Or.inl rfl) (pe_lst pa_nil))
      (pss_cons (ps_for PassesOwn.never rfl (pi_range1 rfl X.rng (pa_cons (pe_call (ok_draw Fd k) (hr.mono (by omega)) rfl md Fd.kp bd .nil pass0 (pa_cons (pv 0) (pa_cons pe_int pa_nil))) pa_nil)) (pg_name (i := 10) scKi.nd rfl (Or.inl rfl)) (pss_cons (ps_set (i := 11) scKi.nd rfl (Or.inl rfl) (pe_op op_cat (pv 5) (pe_op op_rep (pe_lst (pa_cons (pv 4) pa_nil)) (pe_callB (call_min2 rfl) (by rfl) X.min boot_min (pa_cons (pv 7) (pa_cons pe_int pa_nil))))))
      (pss_one
        (ps_if (pt_cmpR (op_neD (u64 hr)) (pv 11) (pe_lst pa_nil) (nomark _)) (pss_one
        (ps_expr (pe_bm PySem.F.plainAttrs_list PySem.F.slot_list_append PySem.F.type_list_append mt_append (pv 9) (pa_cons (pe_ix ix_list (pv 11) (pe_call (ok_draw Fd k) (hr.mono (by omega)) rfl md Fd.kp bd .nil pass0 (pa_cons (pv 0) (pa_cons (pe_callB call_len_seq (by rfl) X.len PySem.boot_len (pa_cons (pv 11) pa_nil)) pa_nil))) (fun _ _ => rfl)) pa_nil)))) pss_nil))))
      (pss_one
        (ps_expr (pe_bm PySem.F.plainAttrs_list PySem.F.slot_list_append PySem.F.type_list_append mt_append (pv 6) (pa_cons (pe_tup (pa_cons (pv 8) (pa_cons (pv 9) pa_nil))) pa_nil)))))))))
      (pss_one
        (ps_expr (pe_bm PySem.F.plainAttrs_list PySem.F.slot_list_append PySem.F.type_list_append mt_append (pv 2) (pa_cons (pe_tup (pa_cons (pv 4) (pa_cons (pv 6) pa_nil))) pa_nil))))))))))
      (pss_one
        (ps_ret (pv 2)))))/-E-/, ?_⟩
  refine ⟨Nat.zero_le _, fun kk hkk => ?_⟩
  have sK : Same H (upd H kk (.lst [])) := Same.upd hkk
  have pK := hp.same sK
  have tK := sK _ _ ht
  have kK : upd H kk (.lst []) kk = some (.lst []) := upd_same
  generalize upd H kk (.lst []) = HK at sK pK tK kK ⊢
  refine ⟨_, rfl, p, 4, rfl, pK, by decide, by decide, fun r1 H1 l1 b1 p1 => ?_⟩
  have nek : kk ≠ p := by
    intro e
    obtain ⟨_, _, z, _⟩ := hp
    rw [e, z] at hkk
    cases hkk
  have nekt : kk ≠ t := by
    intro e
    rw [e, ht] at hkk
    cases hkk
  have t1 := b1 _ _ ne tK
  have k1 := b1 _ _ nek kK
  refine ⟨_, _, rfl, rfl, _, rfl, by show -(2 ^ 62) ≤ (1 : Int) + (r1 : Int); omega, by show (1 : Int) + (r1 : Int) < 2 ^ 62; omega, ?_⟩
  have nn : ((1 : Int) + (r1 : Int)).toNat = r1 + 1 := by omega
  refine for_range (fun i σ' H' => ∃ (ks os : List Str) (us : List V) (o3 o4 o5 o6 o7 o8 o9 o10 o11 : Option V), σ' = [some (V.ref p), some (V.ref t), some (V.ref kk), o3, o4, o5, o6, o7, o8, o9, o10, o11, none] ∧ Mu [kk, p, t] H1 H' ∧ StA H' p ∧ H' t = some (.lst (os.map V.str)) ∧ os.length ≤ 4 * i ∧
      H' kk = some (.lst us) ∧ us.length = ks.length ∧ ks.length = i ∧ (∀ x ∈ ks, G x) ∧ ∀ v ∈ us, KAt [kk, p, t] ks H' v)
    ⟨[], [], [], none, none, none, none, none, none, none, none, none, rfl, .refl H1, p1, t1, Nat.le_refl _, k1, rfl, rfl, (fun x hx => nomatch hx), (fun x hx => nomatch hx)⟩ (fun i σ' H2 hi q => ?_) (fun σ' H2 q => ?_)
  · obtain ⟨ks, os, us, o3, o4, o5, o6, o7, o8, o9, o10, o11, rfl, m2, p2, t2, lo, k2, lu, lk, gk, uk⟩ := q
    have i4 : i < 4 := by
      have hi : i < ((1 : Int) + (r1 : Int)).toNat := hi
      omega
    refine ⟨_, rfl, _, rfl, p, t, os, rfl, p2, t2, ne, by omega, fun x H3 gx b3 p3 => ?_⟩
    have t3 := b3 _ _ ne t2
    have k3 := b3 _ _ nek k2
    refine ⟨_, rfl, .inl ⟨rfl, _, SqL.of t3⟩, _, rfl, _, _, _, rfl, rfl, t3, ?_, ?_⟩
    · rw [List.length_map]
      exact Nat.lt_of_le_of_lt (show os.length ≤ 1000 by omega) (by decide)
    have mu4 : Mu [p, t] H2 (upd H3 t (.lst (os.map V.str ++ [V.str x]))) := (Mu.but b3 (by simp)).trans (Mu.upd (by simp))
    have nkt : kk ∉ [p, t] := by simp [nek, nekt]
    have p4 : StA (upd H3 t (.lst (os.map V.str ++ [V.str x]))) p := by
      obtain ⟨a, b, z, r⟩ := p3
      exact ⟨a, b, by rw [upd_ne (Ne.symm ne)]; exact z, r⟩
    have t4 : upd H3 t (.lst (os.map V.str ++ [V.str x])) t = some (.lst ((os ++ [x]).map V.str)) := by rw [upd_same, List.map_append] <;> rfl
    have k4 := mu4 _ _ nkt k2
    have uk4 : ∀ v ∈ us, KAt [kk, p, t] ks (upd H3 t (.lst (os.map V.str ++ [V.str x]))) v := fun v hv => (uk v hv).mono (mu4.sub (by simp))
    generalize upd H3 t (.lst (os.map V.str ++ [V.str x])) = H4 at mu4 p4 t4 k4 uk4 ⊢
    refine ⟨_, rfl, kk, rfl, ⟨_, SqL.of k4⟩, fun D hD => lc_list (xs := us) (fun i H5 => Same H4 H5 ∧ ∃ tl : List Str, H5 D = some (.lst (tl.map V.str)) ∧ tl.length ≤ i ∧ ∀ y ∈ tl, y ∈ ks)
      ⟨Same.upd hD, [], upd_same, Nat.le_refl _, (fun y hy => nomatch hy)⟩ (fun i H5 _ q => SqL.of (q.1 _ _ k4)) (fun j v H5 hv q => ?_) (fun H5 q => ?_)⟩
    · obtain ⟨s5, tl, d5, ltl, mtl⟩ := q
      obtain ⟨a, mk, n, ms, rfl, h1, h2, hn, lm, hm⟩ := (uk4 v (List.mem_of_getElem? hv)).mono (.same s5)
      have jl : j < us.length := (List.getElem?_eq_some_iff.mp hv).1
      refine ⟨rfl, _, rfl, _, _, _, _, rfl, rfl, SqT.of h1.1, rfl, Nat.zero_le _, fun z hz => ?_⟩
      have s6 : Same H5 (upd H5 z (.lst [])) := Same.upd hz
      obtain ⟨dd, e1, e2⟩ := mAt_list (K := K) gk (s6 _ _ h2.1) fun m hmm => (hm m hmm).mono (.same s6)
      refine ⟨_, _, e1, .lst (SqL.of upd_same) .nil, e2, shaped_strs (ts := []) (fun _ h => nomatch h), _, rfl, ite2 (fun e => ?_) (fun e => ?_)⟩
      · refine ⟨_, rfl, _, _, _, _, rfl, rfl, SqT.of (s6 _ _ h1.1), rfl, _, s6 _ _ d5, ?_, fun y u hy => ?_, tl ++ [n], by rw [upd_same, List.map_append] <;> rfl, by rw [List.length_append]; exact Nat.succ_le_succ ltl, fun y hy => ?_⟩
        · rw [List.length_map]
          exact Nat.lt_of_le_of_lt (show tl.length ≤ 1000 by omega) (by decide)
        · rw [upd_ne (ne_of_none hy hD)]
          exact s6 _ _ (s5 _ _ hy)
        · rcases List.mem_append.mp hy with h | h
          · exact mtl y h
          · rw [List.mem_singleton.mp h]
            exact hn
      · exact ⟨s5.trans s6, tl, s6 _ _ d5, Nat.le_succ_of_le ltl, mtl⟩
    obtain ⟨s5, tl, d5, ltl, mtl⟩ := q
    refine ⟨Nat.zero_le _, fun mk hmk => ?_⟩
    obtain ⟨pa, pb, pz, _⟩ := id p4
    have nDp : D ≠ p := Ne.symm (ne_of_none pz hD)
    have nDt : D ≠ t := Ne.symm (ne_of_none t4 hD)
    have nDk : D ≠ kk := Ne.symm (ne_of_none k4 hD)
    have nmp : mk ≠ p := Ne.symm (ne_of_none (s5 _ _ pz) hmk)
    have nmt : mk ≠ t := Ne.symm (ne_of_none (s5 _ _ t4) hmk)
    have nmk : mk ≠ kk := Ne.symm (ne_of_none (s5 _ _ k4) hmk)
    have nDm : D ≠ mk := ne_of_none d5 hmk
    have s6 : Same H5 (upd H5 mk (.lst [])) := Same.upd hmk
    have m6 : upd H5 mk (.lst []) mk = some (.lst []) := upd_same
    generalize upd H5 mk (.lst []) = H6 at s6 m6 ⊢
    have s46 := s5.trans s6
    refine ⟨_, rfl, p, 4, rfl, p4.same s46, by decide, by decide, fun r2 H7 l2 b7 p7 => ?_⟩
    have t7 := b7 _ _ ne (s46 _ _ t4)
    have k7 := b7 _ _ nek (s46 _ _ k4)
    have d7 := b7 _ _ nDp (s6 _ _ d5)
    have m7 := b7 _ _ nmp m6
    have mu7 : Mu [p, t] H2 H7 := (mu4.trans (.same s46)).trans (.but b7 (by simp))
    refine ⟨_, rfl, by omega, by omega, ?_⟩
    have n2 : ((r2 : Int)).toNat = r2 := by omega
    refine for_range (fun j σ' H' => ∃ (os' : List Str) (ms : List V) (o3 o7 o8 o9 o10 o11 : Option V), σ' = [some (V.ref p), some (V.ref t), some (V.ref kk), o3, some (V.str x), some (V.ref D), some (V.ref mk), o7, o8, o9, o10, o11, none] ∧ Mu [mk, p, t] H7 H' ∧ StA H' p ∧ H' t = some (.lst (os'.map V.str)) ∧ os'.length ≤ 4 * i + 1 + j ∧
        H' mk = some (.lst ms) ∧ ms.length ≤ j ∧ ∀ m ∈ ms, MAt [mk, kk, p, t] (ks ++ [x]) H' m)
      ⟨os ++ [x], [], _, _, _, _, _, _, rfl, .refl H7, p7, t7, by rw [List.length_append]; exact Nat.succ_le_succ lo, m7, Nat.le_refl _, (fun y hy => nomatch hy)⟩ (fun j σ' H8 hj q => ?_) (fun σ' H8 q => ?_)
    · obtain ⟨os', ms, q3, q7, q8, q9, q10, q11, rfl, mu8, p8, t8, lo', m8, lm, am⟩ := q
      have j3 : j < 3 := by
        have hj : j < ((r2 : Int)).toNat := hj
        omega
      refine ⟨_, rfl, _, rfl, p, t, os', rfl, p8, t8, ne, by omega, fun y H9 gy b9 p9 => ?_⟩
      have t9 := b9 _ _ ne t8
      refine ⟨_, rfl, .inl ⟨rfl, _, SqL.of t9⟩, _, rfl, _, _, _, rfl, rfl, t9, ?_, ?_⟩
      · rw [List.length_map]
        exact Nat.lt_of_le_of_lt (show os'.length ≤ 1000 by omega) (by decide)
      have mu10 : Mu [p, t] H8 (upd H9 t (.lst (os'.map V.str ++ [V.str y]))) := (Mu.but b9 (by simp)).trans (Mu.upd (by simp))
      have p10 : StA (upd H9 t (.lst (os'.map V.str ++ [V.str y]))) p := by
        obtain ⟨a, b, z, r⟩ := p9
        exact ⟨a, b, by rw [upd_ne (Ne.symm ne)]; exact z, r⟩
      have t10 : upd H9 t (.lst (os'.map V.str ++ [V.str y])) t = some (.lst ((os' ++ [y]).map V.str)) := by rw [upd_same, List.map_append] <;> rfl
      generalize upd H9 t (.lst (os'.map V.str ++ [V.str y])) = H10 at mu10 p10 t10 ⊢
      have d10 : H10 D = some (.lst (tl.map V.str)) := mu10 _ _ (by simp [nDp, nDt]) (mu8 _ _ (by simp [nDm, nDp, nDt]) d7)
      have m10 := mu10 _ _ (by simp [nmp, nmt]) m8
      have k10 : H10 kk = some (.lst us) := mu10 _ _ nkt (mu8 _ _ (by simp [Ne.symm nmk, nek, nekt]) k7)
      refine ⟨Nat.zero_le _, fun tk htk => ?_⟩
      obtain ⟨pa', pb', pz', _⟩ := id p10
      have ntp : tk ≠ p := Ne.symm (ne_of_none pz' htk)
      have ntt : tk ≠ t := Ne.symm (ne_of_none t10 htk)
      have ntk : tk ≠ kk := Ne.symm (ne_of_none k10 htk)
      have ntm : tk ≠ mk := Ne.symm (ne_of_none m10 htk)
      have ntD : D ≠ tk := ne_of_none d10 htk
      have s11 : Same H10 (upd H10 tk (.lst [])) := Same.upd htk
      have tk11 : upd H10 tk (.lst []) tk = some (.lst []) := upd_same
      generalize upd H10 tk (.lst []) = H11 at s11 tk11 ⊢
      refine ⟨_, rfl, p, 3, rfl, p10.same s11, by decide, by decide, fun r3 H12 l3 b12 p12 => ?_⟩
      have tk12 := b12 _ _ ntp tk11
      have mu12 : Mu [p, t] H8 H12 := (mu10.trans (.same s11)).trans (.but b12 (by simp))
      have d12 := b12 _ _ nDp (s11 _ _ d10)
      refine ⟨_, rfl, by omega, by omega, ?_⟩
      refine for_range (fun e σ' H' => ∃ (ts : List Str) (o10 o11 : Option V), σ' = [some (V.ref p), some (V.ref t), some (V.ref kk), q3, some (V.str x), some (V.ref D), some (V.ref mk), some (V.int (0 + (j : Nat))), some (V.str y), some (V.ref tk), o10, o11, none] ∧ Mu [tk, p] H12 H' ∧ StA H' p ∧
          H' tk = some (.lst (ts.map V.str)) ∧ ts.length ≤ e ∧ ∀ z ∈ ts, z ∈ ks ++ [x])
        ⟨[], _, _, rfl, .refl H12, p12, tk12, Nat.le_refl _, (fun y hy => nomatch hy)⟩ (fun e σ' H13 he q => ?_) (fun σ' H13 q => ?_)
      · obtain ⟨ts, o10, o11, rfl, mu13, p13, tk13, lts, mts⟩ := q
        have e2 : e < 2 := by
          have he : e < ((r3 : Int)).toNat := he
          omega
        have d13 : H13 D = some (.lst (tl.map V.str)) := mu13 _ _ (by simp [ntD, nDp]) d12
        refine ⟨_, rfl, _, rfl, by show 1 ≤ sizeLine; decide, fun q1 hq1 => ?_⟩
        have sa : Same H13 (upd H13 q1 (.lst [V.str x])) := Same.upd hq1
        refine ⟨_, rfl, _, _, rfl, ?_⟩
        obtain ⟨n, hn, hn1⟩ : ∃ n : Nat, ((if (1 : Int) < (0 + (j : Int)) then 1 else (0 + (j : Int))) = (n : Int)) ∧ n ≤ 1 := by
          by_cases hj1 : (1 : Int) < (0 + (j : Int))
          · exact ⟨1, if_pos hj1, Nat.le_refl _⟩
          · exact ⟨j, by rw [if_neg hj1]; omega, by omega⟩
        show rRep _ (V.int (if (1 : Int) < (0 + (j : Int)) then 1 else (0 + (j : Int)))) _ _
        rw [hn]
        refine ⟨_, _, _, rfl, rfl, upd_same, by omega, by omega, Nat.le_trans (show _ ≤ 1 by simpa using hn1) (by decide), fun q2 hq2 => ?_⟩
        have er : (List.replicate ((n : Int)).toNat [V.str x]).flatten = (List.replicate n x).map V.str := by
          match n, hn1 with
          | 0, _ => rfl
          | 1, _ => rfl
        rw [er]
        have sb := sa.trans (Same.upd (o := .lst ((List.replicate n x).map V.str)) hq2)
        refine ⟨_, _, _, _, rfl, rfl, sb _ _ d13, upd_same, ?_, fun q4 hq4 => ?_⟩
        · rw [List.length_map, List.length_map, List.length_replicate]
          exact Nat.le_trans (show tl.length + n ≤ 1000 by omega) (by decide)
        have sc := sb.trans (Same.upd (o := .lst (tl.map V.str ++ (List.replicate n x).map V.str)) hq4)
        have some14 : upd (upd (upd H13 q1 (.lst [V.str x])) q2 (.lst ((List.replicate n x).map V.str))) q4 (.lst (tl.map V.str ++ (List.replicate n x).map V.str)) q4 = some (.lst ((tl ++ List.replicate n x).map V.str)) := by rw [upd_same, List.map_append]
        have mso : ∀ z ∈ tl ++ List.replicate n x, z ∈ ks ++ [x] := fun z hz => by
          rcases List.mem_append.mp hz with h | h
          · exact List.mem_append_left _ (mtl z h)
          · exact List.mem_append_right _ (List.mem_singleton.mpr (List.eq_of_mem_replicate h))
        have lso : (tl ++ List.replicate n x).length ≤ 1000 := by
          rw [List.length_append, List.length_replicate]
          omega
        generalize tl ++ List.replicate n x = so at some14 mso lso
        have ntq : q4 ≠ p := by
          obtain ⟨a, b, z, _⟩ := p13
          exact Ne.symm (ne_of_none (sb _ _ z) hq4)
        have ntq2 : tk ≠ q4 := ne_of_none (sb _ _ tk13) hq4
        have gks : ∀ z ∈ ks ++ [x], G z := fun z hz => by
          rcases List.mem_append.mp hz with h | h
          · exact gk z h
          · rw [List.mem_singleton.mp h]
            exact gx
        generalize upd (upd (upd H13 q1 (.lst [V.str x])) q2 (.lst ((List.replicate n x).map V.str))) q4 (.lst (tl.map V.str ++ (List.replicate n x).map V.str)) = H14 at sc some14 ⊢
        refine ⟨_, rfl, Nat.zero_le _, fun q5 hq5 => ?_⟩
        have sd := sc.trans (Same.upd (o := .lst []) hq5)
        have some15 : upd H14 q5 (.lst []) q4 = some (.lst (so.map V.str)) := by
          rw [upd_ne (ne_of_none some14 hq5)]
          exact some14
        have nil15 : upd H14 q5 (.lst []) q5 = some (.lst []) := upd_same
        generalize upd H14 q5 (.lst []) = H15 at sd some15 nil15 ⊢
        refine ⟨_, _, .lst (SqL.of some15) (strs_dp so), .lst (SqL.of nil15) .nil, shaped_strs fun z hz => gks z (mso z hz), shaped_strs (ts := []) (fun _ h => nomatch h), _, rfl, ite2 (fun ee => ?_) (fun ee => ?_)⟩
        · have sne : 0 < so.length := by
            cases so with
            | nil => rw [show PyData.eqv (.list (List.map PyData.str [])) (.list []) = true by simp [PyData.eqv, PyData.eqvAll]] at ee; exact nomatch ee
            | cons _ _ => simp
          have tk15 := sd _ _ tk13
          refine ⟨_, rfl, .inl ⟨rfl, _, SqL.of tk15⟩, _, rfl, _, rfl, _, rfl, _, _, rfl, .inl (SqL.of some15), ?_⟩
          rw [List.length_map]
          refine ⟨p, so.length, rfl, p13.same sd, sne, by omega, fun r5 H16 l5 b16 p16 => ?_⟩
          have so16 := b16 _ _ ntq some15
          have tk16 := b16 _ _ ntp tk15
          obtain ⟨z, hz⟩ : ∃ z, so[r5]? = some z := ⟨_, List.getElem?_eq_getElem l5⟩
          refine ⟨_, _, _, _, rfl, rfl, SqL.of so16, atI_nat (v := V.str z) (by rw [List.getElem?_map, hz] <;> rfl), _, _, _, rfl, rfl, tk16, ?_, ?_⟩
          · rw [List.length_map]
            exact Nat.lt_of_le_of_lt (show ts.length ≤ 1000 by omega) (by decide)
          refine ⟨ts ++ [z], _, _, rfl, ((mu13.trans (.same sd)).trans (.but b16 (by simp))).trans (Mu.upd (by simp)), ?_, by rw [upd_same, List.map_append] <;> rfl, by rw [List.length_append]; exact Nat.succ_le_succ lts, fun z' hz' => ?_⟩
          · obtain ⟨a, b, w, r⟩ := p16
            exact ⟨a, b, by rw [upd_ne (Ne.symm ntp)]; exact w, r⟩
          · rcases List.mem_append.mp hz' with h | h
            · exact mts z' h
            · rw [List.mem_singleton.mp h]
              exact mso z (List.mem_of_getElem? hz)
        · exact ⟨ts, _, _, rfl, mu13.trans (.same sd), p13.same sd, sd _ _ tk13, Nat.le_succ_of_le lts, mts⟩
      · obtain ⟨ts, o10, o11, rfl, mu13, p13, tk13, lts, mts⟩ := q
        have ltk : ts.length ≤ 3 := by
          have lts : ts.length ≤ ((r3 : Int)).toNat := lts
          omega
        have mo : Mu [p, t] H8 H13 := fun a o hn ha => by
          have h10 := mu10 _ _ hn ha
          have hp' : a ≠ p := fun z => hn (by simp [z])
          refine mu13 _ _ ?_ (b12 _ _ hp' (s11 _ _ h10))
          simp [ne_of_none h10 htk, hp']
        have m13 := mo _ _ (by simp [nmp, nmt]) m8
        have t13 := mu13 _ _ (by simp [Ne.symm ntt, ne]) (b12 _ _ ne (s11 _ _ t10))
        have k13 : H13 kk = some (.lst us) := mo _ _ nkt (mu8 _ _ (by simp [Ne.symm nmk, nek, nekt]) k7)
        refine ⟨_, rfl, .inl ⟨rfl, _, SqL.of m13⟩, _, rfl, _, rfl, by show 2 ≤ sizeLine; decide, fun b hb => ?_⟩
        have nbm : b ≠ mk := Ne.symm (ne_of_none m13 hb)
        have nbt : b ≠ t := Ne.symm (ne_of_none t13 hb)
        have nbk : b ≠ kk := Ne.symm (ne_of_none k13 hb)
        have ntb : tk ≠ b := ne_of_none tk13 hb
        have nbp : b ≠ p := by
          obtain ⟨_, _, z, _⟩ := p13
          exact Ne.symm (ne_of_none z hb)
        have mf : Mu [mk, p, t] H8 (upd (upd H13 b (.tup [V.str y, V.ref tk])) mk (.lst (ms ++ [V.ref b]))) := ((mo.sub (by simp)).trans (.new hb)).trans (.upd (by simp))
        refine ⟨_, _, _, rfl, rfl, by rw [upd_ne (Ne.symm nbm)]; exact m13, ?_, os' ++ [y], ms ++ [V.ref b], _, _, _, _, _, _, rfl, mu8.trans mf, ?_, ?_, ?_, upd_same, ?_, fun m hm => ?_⟩
        · exact Nat.lt_of_le_of_lt (show ms.length ≤ 1000 by omega) (by decide)
        · obtain ⟨a, c, z, r⟩ := p13
          exact ⟨a, c, by rw [upd_ne (Ne.symm nmp), upd_ne (Ne.symm nbp)]; exact z, r⟩
        · rw [upd_ne (Ne.symm nmt), upd_ne (Ne.symm nbt)]
          exact t13
        · rw [List.length_append]
          show _ + 1 ≤ _
          omega
        · rw [List.length_append]
          exact Nat.succ_le_succ lm
        · rcases List.mem_append.mp hm with h | h
          · exact (am m h).mono (mf.sub (by simp +contextual))
          · rw [List.mem_singleton.mp h]
            exact ⟨b, tk, y, ts, rfl, ⟨by rw [upd_ne nbm, upd_same], by simp [nbm, nbk, nbp, nbt]⟩, ⟨by rw [upd_ne ntm, upd_ne ntb]; exact tk13, by simp [ntm, ntk, ntp, ntt]⟩, gy, ltk, mts⟩
    · obtain ⟨os', ms, q3, q7, q8, q9, q10, q11, rfl, mu8, p8, t8, lo', m8, lm, am⟩ := q
      have lo2 : os'.length ≤ 4 * i + 1 + ((r2 : Int)).toNat := lo'
      have lm2 : ms.length ≤ ((r2 : Int)).toNat := lm
      have k8 : H8 kk = some (.lst us) := mu8 _ _ (by simp [Ne.symm nmk, nek, nekt]) k7
      have mo : Mu [p, t] H2 H8 := fun a o hn ha => by
        have h4 := mu4 _ _ hn ha
        have hp' : a ≠ p := fun z => hn (by simp [z])
        have ht' : a ≠ t := fun z => hn (by simp [z])
        have h5 := s5 _ _ h4
        refine mu8 _ _ ?_ (b7 _ _ hp' (s6 _ _ h5))
        simp [ne_of_none h5 hmk, hp', ht']
      refine ⟨_, rfl, .inl ⟨rfl, _, SqL.of k8⟩, _, rfl, _, rfl, by show 2 ≤ sizeLine; decide, fun b hb => ?_⟩
      have nbm : b ≠ mk := Ne.symm (ne_of_none m8 hb)
      have nbt : b ≠ t := Ne.symm (ne_of_none t8 hb)
      have nbk : b ≠ kk := Ne.symm (ne_of_none k8 hb)
      have nbp : b ≠ p := by
        obtain ⟨_, _, z, _⟩ := p8
        exact Ne.symm (ne_of_none z hb)
      have mg' : Mu [kk, p, t] H8 (upd (upd H8 b (.tup [V.str x, V.ref mk])) kk (.lst (us ++ [V.ref b]))) := (Mu.new hb).trans (.upd (by simp))
      have mf : Mu [kk, p, t] H2 (upd (upd H8 b (.tup [V.str x, V.ref mk])) kk (.lst (us ++ [V.ref b]))) := (mo.sub (by simp)).trans mg'
      refine ⟨_, _, _, rfl, rfl, by rw [upd_ne (Ne.symm nbk)]; exact k8, ?_, ks ++ [x], os', us ++ [V.ref b], _, _, _, _, _, _, _, _, _, rfl, m2.trans mf, ?_, ?_, by omega, upd_same, by rw [List.length_append, List.length_append, lu] <;> rfl, by rw [List.length_append, lk] <;> rfl, fun z hz => ?_, fun v hv => ?_⟩
      · exact Nat.lt_of_le_of_lt (show us.length ≤ 1000 by omega) (by decide)
      · obtain ⟨a, c, z, r⟩ := p8
        exact ⟨a, c, by rw [upd_ne (Ne.symm nek), upd_ne (Ne.symm nbp)]; exact z, r⟩
      · rw [upd_ne (Ne.symm nekt), upd_ne (Ne.symm nbt)]
        exact t8
      · rcases List.mem_append.mp hz with h | h
        · exact gk z h
        · rw [List.mem_singleton.mp h]
          exact gx
      · rcases List.mem_append.mp hv with h | h
        · exact ((uk v h).mono mf).more fun z hz => List.mem_append_left _ hz
        · rw [List.mem_singleton.mp h]
          exact ⟨b, mk, x, ms, rfl, ⟨by rw [upd_ne nbk, upd_same], by simp [nbk, nbp, nbt]⟩, ⟨by rw [upd_ne nmk, upd_ne (Ne.symm nbm)]; exact m8, by simp [nmk, nmp, nmt]⟩, by simp, by omega, fun m hm => ((am m hm).drop (by simp +contextual)).mono mg'⟩
  · obtain ⟨ks, os, us, o3, o4, o5, o6, o7, o8, o9, o10, o11, rfl, m2, p2, t2, lo, k2, lu, lk, gk, uk⟩ := q
    have lk2 : ks.length = ((1 : Int) + (r1 : Int)).toNat := lk
    have lo2 : os.length ≤ 4 * ((1 : Int) + (r1 : Int)).toNat := lo
    refine ⟨_, rfl, kq kk _ ks us os (fun a o hn ha => ?_) p2 t2 (by omega) hkk ⟨k2, by simp [nek, nekt]⟩ lu (by omega) (by omega) gk fun v hv => (uk v hv).drop (by simp +contextual)⟩
    have hp' : a ≠ p := fun z => hn (by simp [z])
    have ht' : a ≠ t := fun z => hn (by simp [z])
    exact m2 _ _ (by simp [ne_of_none ha hkk, hp', ht']) (b1 _ _ hp' (sK _ _ ha))
end
end KD

/-! KDf: _law_works. -/
namespace KD
open PySem PySem.Spec PyProof.Rows L2 LamX NdefX LamF KM
abbrev rLenK (K : PySem.W.Frag) : List V → Hp → VK → Prop := fun xs H Q => ∃ p ys, xs = [.ref p] ∧ (SqL K H p ys ∨ SqT K H p ys) ∧ Q (.int ys.length) H
/-- a work's row -/
def WAt (M : List Addr) (ks : List Str) (H : Hp) (v : V) : Prop := ∃ (a tk e : Addr) (x kd : Str) (ts : List Str), v = .ref a ∧ Sb M H a (.tup [.str x, .ref tk, .str kd, .non, .ref e]) ∧ Sb M H tk (.lst (ts.map V.str)) ∧ G x ∧ kd ∈ ks ∧ ts.length ≤ 3 ∧ ∀ y ∈ ts, y ∈ ks
theorem WAt.mono {M : List Addr} {ks : List Str} {H H' : Hp} {v : V} (h : WAt M ks H v) (m : Mu M H H') : WAt M ks H' v := by
  obtain ⟨b, tk, e, x, kd, ts, e1, h1, h2, r⟩ := h
  exact ⟨b, tk, e, x, kd, ts, e1, h1.mono m, h2.mono m, r⟩
theorem WAt.drop {M N : List Addr} {ks : List Str} {H : Hp} {v : V} (h : WAt M ks H v) (s : ∀ x ∈ N, x ∈ M) : WAt N ks H v := by
  obtain ⟨b, tk, e, x, kd, ts, e1, h1, h2, r⟩ := h
  exact ⟨b, tk, e, x, kd, ts, e1, h1.drop s, h2.drop s, r⟩
theorem StA.not {H : Hp} {p x : Addr} (h : StA H p) (e : H x = none) : x ≠ p := by
  obtain ⟨_, _, z, _⟩ := h
  exact Ne.symm (ne_of_none z e)
theorem StA.upd {H : Hp} {p x : Addr} {o : HO} (h : StA H p) (e : x ≠ p) : StA (L2.upd H x o) p := by
  obtain ⟨a, b, z, r⟩ := h
  exact ⟨a, b, by rw [upd_ne (Ne.symm e)]; exact z, r⟩
theorem pick_kind {K : PySem.W.Frag} {σ : L2.St} {H : Hp} {Qe : VK} {p kk t : Addr} {ks : List Str} {us : List V} (h0 : σ[0]? = some (some (V.ref p))) (h1 : σ[1]? = some (some (V.ref kk))) (hp : StA H p) (hk : H kk = some (.lst us)) (nk : kk ≠ p) (lu1 : 0 < us.length) (lu4 : us.length ≤ 4) (uk : ∀ v ∈ us, KAt [p, t] ks H v)
    (k : ∀ n H', n ∈ ks → ButS p H H' → StA H' p → Qe (.str n) H') : (tOp (rIxT K) (tOp (rIxL K) (tVar 1) (tCall spDraw [] E0 (tCons (tVar 0) (tCons (tCB (rLenK K) (tCons (tVar 1) tNil)) tNil)))) (tC (V.int 0))) σ H Qe := by
  refine ⟨_, h1, _, h0, _, h1, _, _, rfl, .inl (SqL.of hk), p, us.length, rfl, hp, lu1, by omega, fun r H2 l b2 p2 => ?_⟩
  obtain ⟨v, hv⟩ : ∃ v, us[r]? = some v := ⟨_, List.getElem?_eq_getElem l⟩
  obtain ⟨a, mk, n, ms, rfl, ha, _, hn, _⟩ := uk v (List.mem_of_getElem? hv)
  have nap : a ≠ p := fun z => ha.2 (by simp [z])
  exact ⟨_, _, _, _, rfl, rfl, SqL.of (b2 _ _ nk hk), atI_nat hv, _, _, _, _, rfl, rfl, SqT.of (b2 _ _ nap ha.1), atI_nat (j := 0) rfl, k n H2 hn b2 p2⟩
def spWorks : Sp := fun vs H Q _ => ∃ (p kk t : Addr) (ks os : List Str) (us : List V), vs = [.ref p, .ref kk, .ref t] ∧ StA H p ∧ H t = some (.lst (os.map V.str)) ∧ os.length ≤ 16 ∧ t ≠ p ∧ Sb [p, t] H kk (.lst us) ∧ 0 < us.length ∧ us.length ≤ 4 ∧ (∀ v ∈ us, KAt [p, t] ks H v) ∧
  ∀ (wk : Addr) (H' : Hp) (ws : List V), Mu [p, t] H H' → StA H' p → H wk = none → Sb [p, t] H' wk (.lst ws) → ws.length ≤ 4 → (∀ v ∈ ws, WAt [p, t] ks H' v) → Q (.ref wk) H'
abbrev nWk : List Str := ["_law_state_here", "_law_kinds_here", "_law_taken", "_law_works_here", "_law_k", "_law_name", "_law_takes", "_law_j"]
theorem scWk : FnScope nWk ["_law_state_here", "_law_kinds_here", "_law_taken"] (defScope (top 18)) := ⟨rfl, rfl, rfl, by decide +kernel, rfl, by decide +kernel, by decide +kernel⟩
section
variable {P : Program} {w : World} {K : PySem.W.Frag} {mg : Str → Option Value} {base : Heap} {f fr' fw : Addr} {fd fdd fdw : FuncData}
theorem ok_works (F : Fun K "_law_works" "_law_works" (top 18) f fd) (Fd : Fun K "_law_draw" "_law_draw" (top 15) fr' fdd) (bd : Binds K fdd ["_law_state_here", "_law_many"] []) (md : mg "_law_draw" = some (.ref fr'))
    (Fw : Fun K "_law_word" "_law_word" (top 16) fw fdw) (bw : Binds K fdw ["_law_state_here", "_law_others"] []) (mw : mg "_law_word" = some (.ref fw)) (X : TxtL mg) (k : Nat) : FnOk P w K mg base CX0 (3 + k) f fd ["_law_state_here", "_law_kinds_here", "_law_taken"] spWorks := by
  rw [show 3 + k = (2 + k) + 1 by omega]
  refine F.ok scWk (fun vs H Q E h => ?_) (fun cdv A0 outer s H vs Q E hr hq => ?_)
  · obtain ⟨p, kk, t, _, _, _, rfl, _⟩ := h
    rfl
  obtain ⟨p, kk, t, ks, os, us, rfl, hp, ht, lo, ne, hk, lu1, lu4, uk, kq⟩ := hq
  refine ⟨_, /-T-/(pss_cons (ps_set (i := 3) scWk.nd rfl (Or.inl rfl) (pe_lst pa_nil))
      (pss_cons (ps_for PassesOwn.never rfl (pi_range1 rfl X.rng (pa_cons (pe_call (ok_draw Fd k) (hr.mono (by omega)) rfl md Fd.kp bd .nil pass0 (pa_cons (pv 0) (pa_cons pe_int pa_nil))) pa_nil)) (pg_name (i := 4) scWk.nd rfl (Or.inl rfl)) (pss_cons (ps_set (i := 5) scWk.nd rfl (Or.inl rfl) (pe_call (ok_word Fw Fd bd md X k) (hr.mono (by omega)) rfl mw Fw.kp bw .nil pass0 (pa_cons (pv 0) (pa_cons (pv 2) pa_nil))))
      (pss_cons (ps_expr (pe_bm PySem.F.plainAttrs_list PySem.F.slot_list_append PySem.F.type_list_append mt_append (pv 2) (pa_cons (pv 5) pa_nil)))
      (pss_cons (ps_setLc (i := 6) (own := [("_law_j", 7)]) (g := gName 7) (tt := tYes) (te := tOp (rIxT K) (tOp (rIxL K) (tVar 1) (tCall spDraw [] E0 (tCons (tVar 0) (tCons (tCB (rLenK K) (tCons (tVar 1) tNil)) tNil)))) (tC (V.int 0))) rfl scWk.nd rfl rfl rfl (pi_range1 rfl X.rng (pa_cons (pe_call (ok_draw Fd k) (hr.mono (by omega)) rfl md Fd.kp bd .nil pass0 (pa_cons (pv 0) (pa_cons pe_int pa_nil))) pa_nil)) (blkOk_by (N := nWk) (sc := defScope (top 18)) (by decide +kernel)) (fun _ _ _ _ _ => pg_name (i := 7) scWk.nd rfl (Or.inl rfl)) (fun _ _ _ _ _ => pts_nil) (fun _ _ _ _ _ => (pe_ix ix_tup (pe_ix ix_list (pv 1) (pe_call (ok_draw Fd k) (hr.mono (by omega)) rfl md Fd.kp bd .nil pass0 (pa_cons (pv 0) (pa_cons (pe_callB call_len_seq (by rfl) X.len PySem.boot_len (pa_cons (pv 1) pa_nil)) pa_nil))) (fun _ _ => rfl)) pe_int (fun _ _ => rfl))))
      (pss_one
        (ps_expr (pe_bm PySem.F.plainAttrs_list PySem.F.slot_list_append PySem.F.type_list_append mt_append (pv 3) (pa_cons (pe_tup (pa_cons (pv 5) (pa_cons (pv 6) (pa_cons (pe_ix ix_tup (pe_ix ix_list (pv 1) (pe_call (ok_draw Fd k) (hr.mono (by omega)) rfl md Fd.kp bd .nil pass0 (pa_cons (pv 0) (pa_cons (pe_callB call_len_seq (by rfl) X.len PySem.boot_len (pa_cons (pv 1) pa_nil)) pa_nil))) (fun _ _ => rfl)) pe_int (fun _ _ => rfl)) (pa_cons pe_non (pa_cons (pe_lst pa_nil) pa_nil)))))) pa_nil))))))))
      (pss_one
        (ps_ret (pv 3)))))/-E-/, ?_⟩
/-B-/
  have nkp : kk ≠ p := fun z => hk.2 (by simp [z])
  have nkt : kk ≠ t := fun z => hk.2 (by simp [z])
  refine ⟨Nat.zero_le _, fun wk hwk => ?_⟩
  have sK : Same H (upd H wk (.lst [])) := Same.upd hwk
  have pK := hp.same sK
  have tK := sK _ _ ht
  have wK : upd H wk (.lst []) wk = some (.lst []) := upd_same
  have nwp := hp.not hwk
  have nwt : wk ≠ t := Ne.symm (ne_of_none ht hwk)
  generalize upd H wk (.lst []) = HK at sK pK tK wK ⊢
  refine ⟨_, rfl, p, 5, rfl, pK, by decide, by decide, fun r1 H1 l1 b1 p1 => ?_⟩
  have t1 := b1 _ _ ne tK
  have w1 := b1 _ _ nwp wK
  have mu1 : Mu [p, t] H H1 := (Mu.same sK).trans (.but b1 (by simp))
  refine ⟨_, rfl, by omega, by omega, ?_⟩
  refine for_range (fun i σ' H' => ∃ (os' : List Str) (ws : List V) (o4 o5 o6 : Option V), σ' = [some (V.ref p), some (V.ref kk), some (V.ref t), some (V.ref wk), o4, o5, o6, none] ∧ Mu [wk, p, t] H1 H' ∧ StA H' p ∧ H' t = some (.lst (os'.map V.str)) ∧ os'.length ≤ 16 + i ∧
      H' wk = some (.lst ws) ∧ ws.length = i ∧ ∀ v ∈ ws, WAt [wk, p, t] ks H' v)
    ⟨os, [], none, none, none, rfl, .refl H1, p1, t1, lo, w1, rfl, (fun x hx => nomatch hx)⟩ (fun i σ' H2 hi q => ?_) (fun σ' H2 q => ?_)
  · obtain ⟨os', ws, o4, o5, o6, rfl, m2, p2, t2, lo2, w2, lw, aw⟩ := q
    have i4 : i < 4 := by
      have hi : i < ((r1 : Int)).toNat := hi
      omega
    refine ⟨_, rfl, _, rfl, p, t, os', rfl, p2, t2, ne, by omega, fun x H3 gx b3 p3 => ?_⟩
    have t3 := b3 _ _ ne t2
    refine ⟨_, rfl, .inl ⟨rfl, _, SqL.of t3⟩, _, rfl, _, _, _, rfl, rfl, t3, ?_, ?_⟩
    · rw [List.length_map]
      exact Nat.lt_of_le_of_lt (show os'.length ≤ 1000 by omega) (by decide)
    have mu4 : Mu [p, t] H2 (upd H3 t (.lst (os'.map V.str ++ [V.str x]))) := (Mu.but b3 (by simp)).trans (Mu.upd (by simp))
    have p4 : StA (upd H3 t (.lst (os'.map V.str ++ [V.str x]))) p := p3.upd ne
    have t4 : upd H3 t (.lst (os'.map V.str ++ [V.str x])) t = some (.lst ((os' ++ [x]).map V.str)) := by rw [upd_same, List.map_append] <;> rfl
    generalize upd H3 t (.lst (os'.map V.str ++ [V.str x])) = H4 at mu4 p4 t4 ⊢
    have w4 := mu4 _ _ (by simp [nwp, nwt]) w2
    have mu14 : Mu [wk, p, t] H1 H4 := m2.trans (mu4.sub (by simp))
    have mu04 : Mu [p, t] H H4 := fun a o hn ha => mu14 _ _ (by simp [ne_of_none ha hwk, show a ≠ p from fun z => hn (by simp [z]), show a ≠ t from fun z => hn (by simp [z])]) (mu1 _ _ hn ha)
    refine ⟨_, rfl, p, 4, rfl, p4, by decide, by decide, fun r2 H5 l2 b5 p5 => ?_⟩
    have mu45 : Mu [p, t] H4 H5 := .but b5 (by simp)
    have mu05 := mu04.trans mu45
    have k5 := mu05 _ _ hk.2 hk.1
    have t5 := b5 _ _ ne t4
    have w5 := b5 _ _ nwp w4
    refine ⟨_, rfl, by omega, by omega, fun D hD => ?_⟩
    have nDp := p5.not hD
    have nDt : D ≠ t := Ne.symm (ne_of_none t5 hD)
    have nDw : D ≠ wk := Ne.symm (ne_of_none w5 hD)
    refine lc_range (fun j H6 => Mu [D, p] H5 H6 ∧ StA H6 p ∧ ∃ ts : List Str, H6 D = some (.lst (ts.map V.str)) ∧ ts.length = j ∧ ∀ y ∈ ts, y ∈ ks)
      ⟨.upd (by simp), p5.upd nDp, [], upd_same, rfl, (fun y hy => nomatch hy)⟩ (fun j H6 hj q => ?_) (fun H6 q => ?_)
    · obtain ⟨m6, p6, ts, d6, lts, mts⟩ := q
      have mu06 : Mu [p, t] H H6 := fun a o hn ha => by
        have h5 := mu05 _ _ hn ha
        exact m6 _ _ (by simp [ne_of_none h5 hD, show a ≠ p from fun z => hn (by simp [z])]) h5
      have j3 : j < 3 := by
        have hj : j < ((r2 : Int)).toNat := hj
        omega
      refine ⟨rfl, ?_⟩
      unfold tYes
      simp only [if_true]
      refine pick_kind (t := t) rfl rfl p6 (mu06 _ _ hk.2 hk.1) nkp lu1 lu4 (fun v hv => (uk v hv).mono mu06) fun n H7 hn b7 p7 => ?_
      refine ⟨_, b7 _ _ nDp d6, ?_, (m6.trans (.but b7 (by simp))).trans (.upd (by simp)), p7.upd nDp, ts ++ [n], by rw [upd_same, List.map_append] <;> rfl, by rw [List.length_append, lts] <;> rfl, fun y hy => ?_⟩
      · rw [List.length_map]
        exact Nat.lt_of_le_of_lt (show ts.length ≤ 1000 by omega) (by decide)
      · rcases List.mem_append.mp hy with h | h
        · exact mts y h
        · rw [List.mem_singleton.mp h]
          exact hn
    obtain ⟨m6, p6, ts, d6, lts, mts⟩ := q
    have lts3 : ts.length ≤ 3 := by
      have lts : ts.length = ((r2 : Int)).toNat := lts
      omega
    have mu46 : Mu [p, t] H4 H6 := fun a o hn ha => by
      have h5 := mu45 _ _ hn ha
      exact m6 _ _ (by simp [ne_of_none h5 hD, show a ≠ p from fun z => hn (by simp [z])]) h5
    have mu06 := mu04.trans mu46
    have w6 := mu46 _ _ (by simp [nwp, nwt]) w4
    have t6 : H6 t = some (.lst ((os' ++ [x]).map V.str)) := m6 _ _ (by simp [Ne.symm nDt, ne]) t5
    refine ⟨_, rfl, .inl ⟨rfl, _, SqL.of w6⟩, _, rfl, _, rfl, ?_⟩
    refine pick_kind (t := t) rfl rfl p6 (mu06 _ _ hk.2 hk.1) nkp lu1 lu4 (fun v hv => (uk v hv).mono mu06) fun n H7 hn b7 p7 => ?_
    refine ⟨Nat.zero_le _, fun e he => ⟨by show 5 ≤ sizeLine; decide, fun b hb => ?_⟩⟩
    have w7 := b7 _ _ nwp w6
    have t7 := b7 _ _ ne t6
    have d7 := b7 _ _ nDp d6
    have se : Same H7 (upd H7 e (.lst [])) := Same.upd he
    have nep := p7.not he
    have p8 := p7.upd (o := .lst []) nep
    have w8 := se _ _ w7
    have t8 := se _ _ t7
    have d8 := se _ _ d7
    generalize upd H7 e (.lst []) = H8 at se p8 w8 t8 d8 hb ⊢
    have nbp := p8.not hb
    have nbw : b ≠ wk := Ne.symm (ne_of_none w8 hb)
    have nbt : b ≠ t := Ne.symm (ne_of_none t8 hb)
    have nbD : b ≠ D := Ne.symm (ne_of_none d8 hb)
    have mf : Mu [wk, p, t] H4 (upd (upd H8 b (.tup [V.str x, V.ref D, V.str n, V.non, V.ref e])) wk (.lst (ws ++ [V.ref b]))) := ((((mu46.trans (.but b7 (by simp))).trans (.same se)).sub (by simp)).trans (.new hb)).trans (.upd (by simp))
    refine ⟨_, _, _, rfl, rfl, by rw [upd_ne (Ne.symm nbw)]; exact w8, ?_, os' ++ [x], ws ++ [V.ref b], _, _, _, rfl, mu14.trans mf, (p8.upd nbp).upd nwp, ?_, ?_, upd_same, by rw [List.length_append, lw] <;> rfl, fun v hv => ?_⟩
    · exact Nat.lt_of_le_of_lt (show ws.length ≤ 1000 by omega) (by decide)
    · rw [upd_ne (Ne.symm nwt), upd_ne (Ne.symm nbt)]
      exact t8
    · rw [List.length_append]
      show _ + 1 ≤ _
      omega
    · rcases List.mem_append.mp hv with h | h
      · exact (aw v h).mono ((mu4.sub (by simp)).trans mf)
      · rw [List.mem_singleton.mp h]
        exact ⟨b, D, e, x, n, ts, rfl, ⟨by rw [upd_ne nbw, upd_same], by simp [nbw, nbp, nbt]⟩, ⟨by rw [upd_ne nDw, upd_ne (Ne.symm nbD)]; exact d8, by simp [nDw, nDp, nDt]⟩, gx, hn, lts3, mts⟩
  · obtain ⟨os', ws, o4, o5, o6, rfl, m2, p2, t2, lo2, w2, lw, aw⟩ := q
    have lw2 : ws.length = ((r1 : Int)).toNat := lw
    refine ⟨_, rfl, kq wk _ ws (fun a o hn ha => ?_) p2 hwk ⟨w2, by simp [nwp, nwt]⟩ (by omega) fun v hv => (aw v hv).drop (by simp +contextual)⟩
    exact m2 _ _ (by simp [ne_of_none ha hwk, show a ≠ p from fun z => hn (by simp [z]), show a ≠ t from fun z => hn (by simp [z])]) (mu1 _ _ hn ha)
end
end KD

/-! KDg: _law_makes, _law_drawn_ground. -/
namespace KD
open PySem PySem.Spec PyProof.Rows L2 LamX NdefX LamF KM
/-- a row of what makes: a name, what it takes, its kind -/
def FAt (M : List Addr) (ks : List Str) (H : Hp) (q : L2.Key × V) : Prop := ∃ (x kd : Str) (a tk : Addr) (ts : List Str), q = (Sum.inr x, .ref a) ∧ Sb M H a (.tup [.ref tk, .str kd]) ∧ Sb M H tk (.lst (ts.map V.str)) ∧ G x ∧ kd ∈ ks ∧ ts.length ≤ 3 ∧ ∀ y ∈ ts, y ∈ ks
theorem FAt.mono {M : List Addr} {ks : List Str} {H H' : Hp} {q : L2.Key × V} (h : FAt M ks H q) (m : Mu M H H') : FAt M ks H' q := by
  obtain ⟨x, kd, a, tk, ts, e1, h1, h2, r⟩ := h
  exact ⟨x, kd, a, tk, ts, e1, h1.mono m, h2.mono m, r⟩
theorem FAt.drop {M N : List Addr} {ks : List Str} {H : Hp} {q : L2.Key × V} (h : FAt M ks H q) (s : ∀ x ∈ N, x ∈ M) : FAt N ks H q := by
  obtain ⟨x, kd, a, tk, ts, e1, h1, h2, r⟩ := h
  exact ⟨x, kd, a, tk, ts, e1, h1.drop s, h2.drop s, r⟩
theorem FAt.fresh {M : List Addr} {ks : List Str} {H : Hp} {q : L2.Key × V} {y : Addr} (h : FAt M ks H q) (hx : H y = none) : FAt (y :: M) ks H q := by
  obtain ⟨x, kd, a, tk, ts, e1, h1, h2, r⟩ := h
  exact ⟨x, kd, a, tk, ts, e1, h1.fresh hx, h2.fresh hx, r⟩
theorem WAt.fresh {M : List Addr} {ks : List Str} {H : Hp} {v : V} {y : Addr} (h : WAt M ks H v) (hx : H y = none) : WAt (y :: M) ks H v := by
  obtain ⟨b, tk, e, x, kd, ts, e1, h1, h2, r⟩ := h
  exact ⟨b, tk, e, x, kd, ts, e1, h1.fresh hx, h2.fresh hx, r⟩
theorem mem_putK {kvs : List (L2.Key × V)} {k : L2.Key} {v : V} {q : L2.Key × V} (h : q ∈ putK kvs k v) : q = (k, v) ∨ q ∈ kvs := by
  unfold putK at h
  split at h
  · obtain ⟨r, hr, e⟩ := List.mem_map.mp h
    by_cases er : r.1 = k
    · rw [if_pos er] at e
      exact .inl (by rw [← e, er])
    · rw [if_neg er] at e
      exact .inr (e ▸ hr)
  · rcases List.mem_append.mp h with h | h
    · exact .inr h
    · exact .inl (List.mem_singleton.mp h)
theorem len_putK (kvs : List (L2.Key × V)) (k : L2.Key) (v : V) : (putK kvs k v).length ≤ kvs.length + 1 := by
  unfold putK
  split
  · rw [List.length_map]; omega
  · rw [List.length_append]; exact Nat.le_refl _
def spMakes : Sp := fun vs H Q _ => ∃ (kk wk : Addr) (ks : List Str) (us ws : List V), vs = [.ref kk, .ref wk] ∧ H kk = some (.lst us) ∧ H wk = some (.lst ws) ∧ us.length ≤ 4 ∧ ws.length ≤ 4 ∧ (∀ v ∈ us, KAt [] ks H v) ∧ (∀ v ∈ ws, WAt [] ks H v) ∧
  ∀ (d : Addr) (H' : Hp) (kvs : List (L2.Key × V)), Same H H' → H d = none → H' d = some (.dK kvs) → kvs.length ≤ 16 → (∀ q ∈ kvs, FAt [d] ks H' q) → Q (.ref d) H'
def spGround : Sp := fun vs H Q _ => ∃ p : Addr, vs = [.ref p] ∧ StA H p ∧ ∀ (g kk wk : Addr) (H' : Hp) (ks : List Str) (us ws : List V), ButS p H H' → H' g = some (.tup [.ref kk, .ref wk]) → H' kk = some (.lst us) → H' wk = some (.lst ws) →
  us.length = ks.length → 1 ≤ ks.length → ks.length ≤ 4 → ws.length ≤ 4 → (∀ x ∈ ks, G x) → (∀ v ∈ us, KAt [] ks H' v) → (∀ v ∈ ws, WAt [] ks H' v) → Q (.ref g) H'
abbrev nMk : List Str := ["_law_kinds_here", "_law_works_here", "_law_makes_here", "_law_kind", "_law_makers", "_law_maker", "_law_takes", "_law_work"]
theorem scMk : FnScope nMk ["_law_kinds_here", "_law_works_here"] (defScope (top 19)) := ⟨rfl, rfl, rfl, by decide +kernel, rfl, by decide +kernel, by decide +kernel⟩
abbrev nGr : List Str := ["_law_state_here", "_law_taken", "_law_kinds_here", "_law_works_here"]
theorem scGr : FnScope nGr ["_law_state_here"] (defScope (top 20)) := ⟨rfl, rfl, rfl, by decide +kernel, rfl, by decide +kernel, by decide +kernel⟩
section
variable {P : Program} {w : World} {K : PySem.W.Frag} {mg : Str → Option Value} {base : Heap} {f fr' fw fk fv : Addr} {fd fdd fdw fdk fdv : FuncData}
theorem ok_makes (F : Fun K "_law_makes" "_law_makes" (top 19) f fd) (k : Nat) : FnOk P w K mg base CX0 (1 + k) f fd ["_law_kinds_here", "_law_works_here"] spMakes := by
  rw [show 1 + k = (0 + k) + 1 by omega]
  refine F.ok scMk (fun vs H Q E h => ?_) (fun cdv A0 outer s H vs Q E hr hq => ?_)
  · obtain ⟨kk, wk, _, _, _, rfl, _⟩ := h
    rfl
  obtain ⟨kk, wk, ks, us, ws, rfl, hk, hw, lu, lw, uk, aw, kq⟩ := hq
  refine ⟨_, /-T-/(pss_cons (ps_set (i := 2) scMk.nd rfl (Or.inl rfl) pe_dnewK)
      (pss_cons (ps_for PassesOwn.never rfl (pi_list (pv 0)) (pg_tup rfl (pgs_cons (pg_name (i := 3) scMk.nd rfl (Or.inl rfl)) (pgs_cons (pg_name (i := 4) scMk.nd rfl (Or.inl rfl)) pgs_nil))) (pss_one
        (ps_for PassesOwn.never rfl (pi_list (pv 4)) (pg_tup rfl (pgs_cons (pg_name (i := 5) scMk.nd rfl (Or.inl rfl)) (pgs_cons (pg_name (i := 6) scMk.nd rfl (Or.inl rfl)) pgs_nil))) (pss_one
        (ps_dput (hu_of hr) (pv 2) (pv 5) (pe_tup (pa_cons (pv 6) (pa_cons (pv 3) pa_nil))) rfl)))))
      (pss_cons (ps_for PassesOwn.never rfl (pi_list (pv 1)) (pg_name (i := 7) scMk.nd rfl (Or.inl rfl)) (pss_one
        (ps_dput (hu_of hr) (pv 2) (pe_ix ix_tup (pv 7) pe_int (fun _ _ => rfl)) (pe_tup (pa_cons (pe_ix ix_tup (pv 7) pe_int (fun _ _ => rfl)) (pa_cons (pe_ix ix_tup (pv 7) pe_int (fun _ _ => rfl)) pa_nil))) rfl)))
      (pss_one
        (ps_ret (pv 2))))))/-E-/, ?_⟩
/-B-/
  intro d hd
  have s0 : Same H (upd H d (.dK [])) := Same.upd hd
  have d0 : upd H d (.dK []) d = some (.dK []) := upd_same
  have uk0 : ∀ v ∈ us, KAt [d] ks (upd H d (.dK [])) v := fun v hv => ((uk v hv).fresh hd).mono (.same s0)
  have aw0 : ∀ v ∈ ws, WAt [d] ks (upd H d (.dK [])) v := fun v hv => ((aw v hv).fresh hd).mono (.same s0)
  have nkd : kk ∉ [d] := by simp [ne_of_none hk hd]
  have nwd : wk ∉ [d] := by simp [ne_of_none hw hd]
  have hk0 := s0 _ _ hk
  have hw0 := s0 _ _ hw
  generalize upd H d (.dK []) = H0 at s0 d0 uk0 aw0 hk0 hw0 ⊢
  have fin : ∀ {H' : Hp} {b tk : Addr} {x kd : Str} {ts : List Str} {kvs : List (L2.Key × V)}, H' d = some (.dK kvs) → (∀ q ∈ kvs, FAt [d] ks H' q) → H' b = none → Sb [d] H' tk (.lst (ts.map V.str)) → G x → kd ∈ ks → ts.length ≤ 3 → (∀ y ∈ ts, y ∈ ks) →
      ∀ q ∈ putK kvs (Sum.inr x) (.ref b), FAt [d] ks (upd (upd H' b (.tup [.ref tk, .str kd])) d (.dK (putK kvs (Sum.inr x) (.ref b)))) q := fun {H' b tk x kd ts kvs} hd' hf hb htk gx hkd lts mts q hq => by
    have m1 : Mu [d] H' (upd (upd H' b (.tup [.ref tk, .str kd])) d (.dK (putK kvs (Sum.inr x) (.ref b)))) := (Mu.new hb).trans (.upd (by simp))
    have nbd : b ≠ d := Ne.symm (ne_of_none hd' hb)
    rcases mem_putK hq with rfl | h
    · exact ⟨x, kd, b, tk, ts, rfl, ⟨by rw [upd_ne nbd, upd_same], by simp [nbd]⟩, htk.mono m1, gx, hkd, lts, mts⟩
    · exact (hf q h).mono m1
  refine ⟨_, rfl, kk, rfl, ⟨_, SqL.of hk0⟩, for_list (xs := us) (fun i σ' H' => ∃ (kvs : List (L2.Key × V)) (o3 o4 o5 o6 : Option V), σ' = [some (V.ref kk), some (V.ref wk), some (V.ref d), o3, o4, o5, o6, none] ∧ Mu [d] H0 H' ∧ H' d = some (.dK kvs) ∧ kvs.length ≤ 3 * i ∧ ∀ q ∈ kvs, FAt [d] ks H' q)
    ⟨[], _, _, _, _, rfl, .refl H0, d0, Nat.le_refl _, (fun q hq => nomatch hq)⟩ (fun i σ' H' _ q => ?_) (fun i v σ' H1 hv q => ?_) (fun σ' H1 q => ?_)⟩
  · obtain ⟨_, _, _, _, _, _, m, _⟩ := q
    exact SqL.of (m _ _ nkd hk0)
  · obtain ⟨kvs, o3, o4, o5, o6, rfl, m1, d1, l1, f1⟩ := q
    have i4 : i < us.length := (List.getElem?_eq_some_iff.mp hv).1
    obtain ⟨a, mk, x, ms, rfl, ha, hmk, hx, lms, hms⟩ := (uk0 v (List.mem_of_getElem? hv)).mono m1
    refine ⟨_, _, rfl, SqT.of ha.1, rfl, _, _, rfl, _, _, rfl, rfl, ?_⟩
    refine ⟨_, rfl, mk, rfl, ⟨_, SqL.of hmk.1⟩, for_list (xs := ms) (fun j σ' H' => ∃ (kvs : List (L2.Key × V)) (o5 o6 : Option V), σ' = [some (V.ref kk), some (V.ref wk), some (V.ref d), some (V.str x), some (V.ref mk), o5, o6, none] ∧ Mu [d] H1 H' ∧ H' d = some (.dK kvs) ∧ kvs.length ≤ 3 * i + j ∧ ∀ q ∈ kvs, FAt [d] ks H' q)
      ⟨kvs, _, _, rfl, .refl H1, d1, l1, f1⟩ (fun j σ' H' _ q => ?_) (fun j v2 σ' H2 hv2 q => ?_) (fun σ' H2 q => ?_)⟩
    · obtain ⟨_, _, _, _, m, _⟩ := q
      exact SqL.of (m _ _ hmk.2 hmk.1)
    · obtain ⟨kvs, o5, o6, rfl, m2, d2, l2, f2⟩ := q
      have j3 : j < ms.length := (List.getElem?_eq_some_iff.mp hv2).1
      obtain ⟨b, tk, y, ts, rfl, hb, htk, gy, lts, mts⟩ := (hms v2 (List.mem_of_getElem? hv2)).mono m2
      refine ⟨_, _, rfl, SqT.of hb.1, rfl, _, _, rfl, _, _, rfl, rfl, ?_⟩
      refine ⟨_, rfl, _, rfl, by show 2 ≤ sizeLine; decide, fun c hc => ?_⟩
      have nc : c ≠ d := Ne.symm (ne_of_none d2 hc)
      refine ⟨_, rfl, _, rfl, d, _, rfl, DPut.k (k := Sum.inr y) (kvs := kvs) (by rw [upd_ne (Ne.symm nc)]; exact d2) ?_, putK kvs (Sum.inr y) (.ref c), _, _, rfl, (m2.trans (.new hc)).trans (.upd (by simp)), upd_same, ?_, fin d2 f2 hc htk gy hx lts mts⟩
      · exact Nat.lt_of_le_of_lt (show kvs.length ≤ 1000 by omega) (by decide)
      · have := len_putK kvs (Sum.inr y) (.ref c)
        omega
    · obtain ⟨kvs, o5, o6, rfl, m2, d2, l2, f2⟩ := q
      exact ⟨kvs, _, _, _, _, rfl, m1.trans m2, d2, by omega, f2⟩
  · obtain ⟨kvs, o3, o4, o5, o6, rfl, m1, d1, l1, f1⟩ := q
    refine ⟨_, rfl, wk, rfl, ⟨_, SqL.of (m1 _ _ nwd hw0)⟩, for_list (xs := ws) (fun i σ' H' => ∃ (kvs : List (L2.Key × V)) (o7 : Option V), σ' = [some (V.ref kk), some (V.ref wk), some (V.ref d), o3, o4, o5, o6, o7] ∧ Mu [d] H0 H' ∧ H' d = some (.dK kvs) ∧ kvs.length ≤ 3 * us.length + i ∧ ∀ q ∈ kvs, FAt [d] ks H' q)
      ⟨kvs, _, rfl, m1, d1, l1, f1⟩ (fun i σ' H' _ q => ?_) (fun i v σ' H2 hv q => ?_) (fun σ' H2 q => ?_)⟩
    · obtain ⟨_, _, _, m, _⟩ := q
      exact SqL.of (m _ _ nwd hw0)
    · obtain ⟨kvs, o7, rfl, m2, d2, l2, f2⟩ := q
      have i4 : i < ws.length := (List.getElem?_eq_some_iff.mp hv).1
      obtain ⟨b, tk, e, y, kd, ts, rfl, hb, htk, gy, hkd, lts, mts⟩ := (aw0 v (List.mem_of_getElem? hv)).mono m2
      refine ⟨_, rfl, _, _, _, _, rfl, rfl, SqT.of hb.1, rfl, _, rfl, _, _, _, _, rfl, rfl, SqT.of hb.1, rfl, by show 2 ≤ sizeLine; decide, fun c hc => ?_⟩
      have nc : c ≠ d := Ne.symm (ne_of_none d2 hc)
      have nbc : b ≠ c := ne_of_none hb.1 hc
      refine ⟨_, rfl, _, rfl, _, _, _, _, rfl, rfl, SqT.of (by rw [upd_ne nbc]; exact hb.1), rfl, d, _, rfl, DPut.k (k := Sum.inr y) (kvs := kvs) (by rw [upd_ne (Ne.symm nc)]; exact d2) ?_, putK kvs (Sum.inr y) (.ref c), _, rfl, (m2.trans (.new hc)).trans (.upd (by simp)), upd_same, ?_, fin d2 f2 hc htk gy hkd lts mts⟩
      · exact Nat.lt_of_le_of_lt (show kvs.length ≤ 1000 by omega) (by decide)
      · have := len_putK kvs (Sum.inr y) (.ref c)
        omega
    · obtain ⟨kvs, o7, rfl, m2, d2, l2, f2⟩ := q
      exact ⟨_, rfl, kq d _ kvs (fun a o ha => m2 _ _ (by simp [ne_of_none ha hd]) (s0 _ _ ha)) hd d2 (by omega) f2⟩
theorem ok_ground (F : Fun K "_law_drawn_ground" "_law_drawn_ground" (top 20) f fd) (Fd : Fun K "_law_draw" "_law_draw" (top 15) fr' fdd) (bd : Binds K fdd ["_law_state_here", "_law_many"] []) (md : mg "_law_draw" = some (.ref fr'))
    (Fw : Fun K "_law_word" "_law_word" (top 16) fw fdw) (bw : Binds K fdw ["_law_state_here", "_law_others"] []) (mw : mg "_law_word" = some (.ref fw)) (Fk : Fun K "_law_kinds" "_law_kinds" (top 17) fk fdk) (bk : Binds K fdk ["_law_state_here", "_law_taken"] []) (mk : mg "_law_kinds" = some (.ref fk))
    (Fv : Fun K "_law_works" "_law_works" (top 18) fv fdv) (bv : Binds K fdv ["_law_state_here", "_law_kinds_here", "_law_taken"] []) (mv : mg "_law_works" = some (.ref fv)) (X : TxtL mg) (k : Nat) : FnOk P w K mg base CX0 (4 + k) f fd ["_law_state_here"] spGround := by
  rw [show 4 + k = (3 + k) + 1 by omega]
  refine F.ok scGr (fun vs H Q E h => ?_) (fun cdv A0 outer s H vs Q E hr hq => ?_)
  · obtain ⟨p, rfl, _⟩ := h
    rfl
  obtain ⟨p, rfl, hp, kq⟩ := hq
  refine ⟨_, pss_cons (ps_set (i := 1) scGr.nd rfl (Or.inl rfl) (pe_lst pa_nil))
    (pss_cons (ps_set (i := 2) scGr.nd rfl (Or.inl rfl) (pe_call (ok_kinds Fk Fd bd md Fw bw mw X k) hr rfl mk Fk.kp bk .nil pass0 (pa_cons (pv 0) (pa_cons (pv 1) pa_nil))))
    (pss_cons (ps_set (i := 3) scGr.nd rfl (Or.inl rfl) (pe_call (ok_works Fv Fd bd md Fw bw mw X k) hr rfl mv Fv.kp bv .nil pass0 (pa_cons (pv 0) (pa_cons (pv 2) (pa_cons (pv 1) pa_nil)))))
    (pss_one (ps_ret (pe_tup (pa_cons (pv 2) (pa_cons (pv 3) pa_nil))))))), ?_⟩
  refine ⟨Nat.zero_le _, fun t ht => ?_⟩
  have s0 : Same H (upd H t (.lst [])) := Same.upd ht
  have ntp := hp.not ht
  have p0 := hp.upd (o := .lst []) ntp
  have t0 : upd H t (.lst []) t = some (.lst []) := upd_same
  generalize upd H t (.lst []) = H0 at s0 p0 t0 ⊢
  refine ⟨_, rfl, _, rfl, p, t, rfl, p0, t0, ntp, fun kk H1 ks us os m1 p1 t1 lo hkk hk lu l1 l4 gk uk => ?_⟩
  refine ⟨_, rfl, _, rfl, _, rfl, p, kk, t, ks, os, us, rfl, p1, t1, lo, ntp, hk, by omega, by omega, uk, fun wk H2 ws m2 p2 hwk hw lw aw => ?_⟩
  refine ⟨_, rfl, _, rfl, by show 2 ≤ sizeLine; decide, fun g hg => ?_⟩
  have sg : Same H2 (upd H2 g (.tup [V.ref kk, V.ref wk])) := Same.upd hg
  refine kq g kk wk _ ks us ws (fun a o hn ha => ?_) upd_same (sg _ _ (m2 _ _ hk.2 hk.1)) (sg _ _ hw.1) lu l1 l4 lw gk (fun v hv => (((uk v hv).mono m2).drop (by simp)).mono (.same sg)) (fun v hv => ((aw v hv).drop (by simp)).mono (.same sg))
  have hn2 : a ∉ [p, t] := by simp [hn, ne_of_none ha ht]
  exact sg _ _ (m2 _ _ hn2 (m1 _ _ hn2 (s0 _ _ ha)))
end
end KD

/-! KDh: _law_term. -/
namespace KD
open PySem PySem.Spec PyProof.Rows L2 LamX NdefX LamF KM
theorem lc_keys {d : Addr} {od : Obj} {kvs : List (L2.Key × V)} {g : TG} {tt : TT} {te : TE} {vs : List Nat} {σ : L2.St} {H1 : Hp} {D : Addr} {Qd : Hp → Prop} (Pv : Nat → Hp → Prop) (h0 : Pv 0 (upd H1 D (.lst []))) (hl : ∀ i H, i ≤ kvs.length → Pv i H → H d = some (.frz od (.dK kvs)))
    (hs : ∀ i k v H, kvs[i]? = some (k, v) → Pv i H → g (kV k) (wipe σ vs) H fun σ2 H2 => wipe σ2 vs = wipe σ vs ∧ tt σ2 H2 fun b H3 =>
      if b = true then te σ2 H3 fun y H4 => ∃ acc, H4 D = some (.lst acc) ∧ acc.length < sizeLine ∧ Pv (i + 1) (upd H4 D (.lst (acc ++ [y]))) else Pv (i + 1) H3) (hd : ∀ H, Pv kvs.length H → Qd H) :
    ∃ W : Nat → Nat → Hp → Prop, (∃ m, W 0 m (upd H1 D (.lst []))) ∧ ∀ i m H, W i m H →
      ((Itk d od kvs).stop i H ∧ Qd H) ∨ ((Itk d od kvs).go i H ∧ ∃ Nx : Hp → Prop, (∀ H', Nx H' → ∃ m', m' < m ∧ W (i + 1) m' H') ∧ ∀ y H', (Itk d od kvs).yld i H y H' → g y (wipe σ vs) H' fun σ2 H2 => wipe σ2 vs = wipe σ vs ∧ tt σ2 H2 fun b H3 =>
        if b = true then te σ2 H3 fun y H4 => ∃ acc, H4 D = some (.lst acc) ∧ acc.length < sizeLine ∧ Nx (upd H4 D (.lst (acc ++ [y]))) else Nx H3) := by
  refine ⟨fun i m H => m = kvs.length - i ∧ i ≤ kvs.length ∧ Pv i H, ⟨kvs.length, by simp, Nat.zero_le _, h0⟩, ?_⟩
  rintro i m H ⟨rfl, hi, p⟩
  have q := hl i H hi p
  by_cases hlt : i < kvs.length
  · refine .inr ⟨⟨q, hlt⟩, Pv (i + 1), fun H' p' => ⟨kvs.length - (i + 1), by omega, rfl, hlt, p'⟩, fun y H' yy => ?_⟩
    obtain ⟨e, k, v, hk, ey⟩ := yy
    subst e ey
    exact hs i k v _ hk p
  · have e : i = kvs.length := by omega
    subst e
    exact .inl ⟨⟨q, Nat.le_refl _⟩, hd H p⟩
theorem valV_mem {k : L2.Key} : ∀ {kvs : List (L2.Key × V)} {v : V}, (k, v) ∈ kvs → ∃ v', valV kvs k = some v' ∧ (k, v') ∈ kvs
  | q :: kvs, v, h => by
    by_cases e : q.1 = k
    · exact ⟨q.2, valV_pos e, by rw [← e]; exact List.mem_cons_self⟩
    · rcases List.mem_cons.mp h with h | h
      · exact absurd (by rw [← h]) e
      · obtain ⟨v', h1, h2⟩ := valV_mem h
        exact ⟨v', by rw [valV_neg e]; exact h1, List.mem_cons_of_mem _ h2⟩
/-- what a leaf is: at level one -/
def Lf (ns ks : List Str) (m h : Nat) (t : T) : Prop := ok ns ks h m t ∧ nz h t ∧ (m = 0 → tm h t)
theorem Lf.le {ns ks : List Str} {m h h' : Nat} {t : T} (l : Lf ns ks m h t) (e : h ≤ h') : Lf ns ks m h' t := ⟨ok_le l.1 e (Nat.le_refl _), nz_le l.2.1 e, fun z => tm_le (l.2.2 z) e⟩
theorem pick_list {K : PySem.W.Frag} {σ : L2.St} {H : Hp} {Qe : VK} {p q : Addr} {lv : List V} {i : Nat} (h0 : σ[0]? = some (some (V.ref p))) (h1 : σ[i]? = some (some (V.ref q))) (hp : StA H p) (hq : H q = some (.lst lv)) (nq : q ≠ p) (l1 : 0 < lv.length) (l2 : lv.length ≤ 1000)
    (k : ∀ v H', v ∈ lv → ButS p H H' → StA H' p → Qe v H') : (tOp (rIxL K) (tVar i) (tCall spDraw [] E0 (tCons (tVar 0) (tCons (tCB (rLenK K) (tCons (tVar i) tNil)) tNil)))) σ H Qe := by
  refine ⟨_, h1, _, h0, _, h1, _, _, rfl, .inl (SqL.of hq), p, lv.length, rfl, hp, l1, by omega, fun r H2 l b2 p2 => ?_⟩
  obtain ⟨v, hv⟩ : ∃ v, lv[r]? = some v := ⟨_, List.getElem?_eq_getElem l⟩
  exact ⟨_, _, _, _, rfl, rfl, SqL.of (b2 _ _ nq hq), atI_nat hv, k v H2 (List.mem_of_getElem? hv) b2 p2⟩
theorem tup_mu {p D : Addr} {H H' : Hp} {xs : List V} (m : Mu [D, p] H H') (hp : StA H p) (hD : H D = some (.lst xs)) : TupS H H' := fun b ys e => m _ _ (by
  obtain ⟨_, _, z, _⟩ := hp
  simp [ne_of e z (by intro q; cases q), ne_of e hD (by intro q; cases q)]) e
/-- what is a leaf, or a term made -/
def spTerm (h : Nat) : Sp := fun vs H Q _ => ∃ (p d nl ar : Addr) (od : Obj) (kind : Str) (dp : Nat) (kvs : List (L2.Key × V)) (ns ks as : List Str), vs = [.ref p, .ref d, .str kind, .ref nl, .ref ar, .int dp] ∧ dp < h ∧ StA H p ∧ H d = some (.frz od (.dK kvs)) ∧ kvs.length ≤ 16 ∧ (∀ q ∈ kvs, FAt [p] ks H q) ∧
  Sb [p] H nl (.lst (ns.map V.str)) ∧ 0 < ns.length ∧ ns.length ≤ 4 ∧ (∀ x ∈ ns, G x) ∧ Sb [p] H ar (.lst (as.map V.str)) ∧ as.length ≤ 4 ∧ kind ∈ ks ∧ (∀ x ∈ ks, G x) ∧
  ∀ v' t H', ButS p H H' → StA H' p → At H' v' t → Lf ns ks as.length (dp + 1) t → Q v' H'
abbrev sTe : Stmt := top 21
abbrev nTe : List Str := ["_law_state_here", "_law_makes_here", "_law_kind", "_law_names", "_law_around", "_law_deep", "_law_leaves", "_law_f", "_law_made", "_law_parts", "_law_k", "_law_x", "_law_one"]
abbrev pTe : List Str := ["_law_state_here", "_law_makes_here", "_law_kind", "_law_names", "_law_around", "_law_deep"]
theorem scTe : FnScope nTe pTe (defScope sTe) := ⟨rfl, rfl, rfl, by decide +kernel, rfl, by decide +kernel, by decide +kernel⟩
section
variable {P : Program} {w : World} {K : PySem.W.Frag} {mg : Str → Option Value} {base : Heap} {f fr' : Addr} {fd fdd : FuncData}
theorem ok_term (F : Fun K "_law_term" "_law_term" sTe f fd) (bt : Binds K fd pTe []) (mt : mg "_law_term" = some (.ref f)) (Fd : Fun K "_law_draw" "_law_draw" (top 15) fr' fdd) (bd : Binds K fdd ["_law_state_here", "_law_many"] []) (md : mg "_law_draw" = some (.ref fr')) (X : TxtL mg) : ∀ h, FnOk P w K mg base CX0 (2 + h) f fd pTe (spTerm h)
  | 0 => by
    refine F.ok scTe (fun vs H Q E h => ?_) (fun cdv A0 outer s H vs Q E hr h => ?_)
    · obtain ⟨_, _, _, _, _, _, _, _, _, _, _, rfl, _⟩ := h
      rfl
    · obtain ⟨_, _, _, _, _, _, _, _, _, _, _, _, z, _⟩ := h
      exact absurd z (Nat.not_lt_zero _)
  | h + 1 => by
    have IH := ok_term F bt mt Fd bd md X h
    rw [show 2 + (h + 1) = (2 + h) + 1 by omega]
    refine F.ok scTe (fun vs H Q E h => ?_) (fun cdv A0 outer s H vs Q E hr hh => ?_)
    · obtain ⟨_, _, _, _, _, _, _, _, _, _, _, rfl, _⟩ := h
      rfl
    obtain ⟨p, d, nl, ar, od, kind, dp, kvs, ns, ks, as, rfl, hdp, hp, hd, lk, fk, hn, n0, n4, gn, ha, a4, hkd, gk, kq⟩ := hh
    refine ⟨_, /-T-/(pss_cons (ps_setLc (i := 6) (own := [("_law_k", 10)]) (g := gName 10) (tt := tTest (tOp rEq (tOp (rIxL K) (tVar 4) (tVar 10)) (tVar 2))) (te := tTup (tCons (tC (V.str "bound")) (tCons (tVar 10) tNil))) rfl scTe.nd rfl rfl rfl (pi_range1 rfl X.rng (pa_cons (pe_callB call_len_seq (by rfl) X.len PySem.boot_len (pa_cons (pv 4) pa_nil)) pa_nil)) (blkOk_by (N := nTe) (sc := defScope (top 21)) (by decide +kernel)) (fun _ _ _ _ _ => pg_name (i := 10) scTe.nd rfl (Or.inl rfl)) (fun _ _ _ _ _ => pts_one (pt_cmpR op_eq (pe_ix ix_list (pv 4) (pv 10) (fun _ _ => rfl)) (pv 2) (nomark _))) (fun _ _ _ _ _ => (pe_tup (pa_cons pe_str (pa_cons (pv 10) pa_nil)))))
      (pss_cons (ps_set (i := 6) scTe.nd rfl (Or.inl rfl) (pe_op op_cat (pv 6) (pe_lc (own := [("_law_x", 11)]) (g := gName 11) (tt := tYes) rfl scTe.nd (pi_list (pv 3)) (blkOk_by (N := nTe) (sc := defScope (top 21)) (by decide +kernel)) (fun _ _ _ _ _ => pg_name (i := 11) scTe.nd rfl (Or.inl rfl)) (fun _ _ _ _ _ => pts_nil) (fun _ _ _ _ _ => (pe_tup (pa_cons pe_str (pa_cons (pv 11) (pa_cons (pv 2) pa_nil))))))))
      (pss_cons (ps_setLc (i := 8) (own := [("_law_f", 7)]) (g := gName 7) (tt := tTest (tOp rEq (tOp (rIxT K) (tDGet (tVar 1) (tVar 7)) (tC (V.int 1))) (tVar 2))) (te := tVar 7) rfl scTe.nd rfl rfl rfl (pi_keys (pv 1)) (blkOk_by (N := nTe) (sc := defScope (top 21)) (by decide +kernel)) (fun _ _ _ _ _ => pg_name (i := 7) scTe.nd rfl (Or.inl rfl)) (fun _ _ _ _ _ => pts_one (pt_cmpR op_eq (pe_ix ix_tup (pe_dget (hu_of hr) (pv 1) (pv 7) (fun _ _ => rfl)) pe_int (fun _ _ => rfl)) (pv 2) (nomark _))) (fun _ _ _ _ _ => (pv 7)))
      (pss_cons (ps_if (PW.pt (pw_and (pt_cmpR (op_neD (u64 hr)) (pv 8) (pe_lst pa_nil) (nomark _)) (pw_and (pt_cmpR op_gt (pv 5) pe_int (nomark _)) (pw_and1 (pt_cmpR op_gt (pe_call (ok_draw Fd 0) (hr.mono (by omega)) rfl md Fd.kp bd .nil pass0 (pa_cons (pv 0) (pa_cons pe_int pa_nil))) pe_int (nomark _)))))) (pss_cons (ps_set (i := 7) scTe.nd rfl (Or.inl rfl) (pe_ix ix_list (pv 8) (pe_call (ok_draw Fd 0) (hr.mono (by omega)) rfl md Fd.kp bd .nil pass0 (pa_cons (pv 0) (pa_cons (pe_callB call_len_seq (by rfl) X.len PySem.boot_len (pa_cons (pv 8) pa_nil)) pa_nil))) (fun _ _ => rfl)))
      (pss_cons (ps_setLc (i := 9) (own := [("_law_one", 12)]) (g := gName 12) (tt := tYes) (te := tCall (spTerm h) [] E0 (tCons (tVar 0) (tCons (tVar 1) (tCons (tVar 12) (tCons (tVar 3) (tCons (tVar 4) (tCons (tOp (rI0 fun i j => .int (i - j)) (tVar 5) (tC (V.int 1))) tNil))))))) rfl scTe.nd rfl rfl rfl (pi_list (pe_ix ix_tup (pe_dget (hu_of hr) (pv 1) (pv 7) (fun _ _ => rfl)) pe_int (fun _ _ => rfl))) (blkOk_by (N := nTe) (sc := defScope (top 21)) (by decide +kernel)) (fun _ _ _ _ _ => pg_name (i := 12) scTe.nd rfl (Or.inl rfl)) (fun _ _ _ _ _ => pts_nil) (fun _ _ _ _ _ => (pe_call (IH) hr rfl mt F.kp bt .nil pass0 (pa_cons (pv 0) (pa_cons (pv 1) (pa_cons (pv 12) (pa_cons (pv 3) (pa_cons (pv 4) (pa_cons (pe_op op_sub (pv 5) pe_int) pa_nil)))))))))
      (pss_one
        (ps_ret (pe_tup (pa_cons pe_str (pa_cons (pv 7) (pa_cons (pe_callTy call_tuple_of (by rfl) X.tuple boot_tuple (pa_cons (pv 9) pa_nil)) pa_nil)))))))) pss_nil)
      (pss_one
        (ps_ret (pe_ix ix_list (pv 6) (pe_call (ok_draw Fd 0) (hr.mono (by omega)) rfl md Fd.kp bd .nil pass0 (pa_cons (pv 0) (pa_cons (pe_callB call_len_seq (by rfl) X.len PySem.boot_len (pa_cons (pv 6) pa_nil)) pa_nil))) (fun _ _ => rfl))))))))/-E-/, ?_⟩
/-B-/
    have nlp : nl ≠ p := fun z => hn.2 (by simp [z])
    have nap : ar ≠ p := fun z => ha.2 (by simp [z])
    have ndp : d ≠ p := by
      intro e
      obtain ⟨_, _, z, _⟩ := hp
      rw [e, z] at hd
      cases hd
    have gkd := gk kind hkd
    refine ⟨_, rfl, _, _, rfl, .inl (SqL.of ha.1), _, rfl, ?_, ?_, fun D hD => ?_⟩
    · omega
    · rw [List.length_map]; omega
    rw [List.length_map]
    refine lc_range (fun i H' => Same H H' ∧ ∃ vs, H' D = some (.lst vs) ∧ vs.length ≤ i ∧ ∀ v ∈ vs, ∃ t, At H' v t ∧ Lf ns ks as.length 1 t) ⟨Same.upd hD, [], upd_same, Nat.le_refl _, (fun v hv => nomatch hv)⟩ (fun i H' hi q => ?_) (fun H1 q => ?_)
    · obtain ⟨s1, vs, hv, lv, av⟩ := q
      have i4 : i < as.length := by
        have hi : i < ((as.length : Nat) : Int).toNat := hi
        omega
      obtain ⟨y, hy⟩ : ∃ y, as[i]? = some y := ⟨_, List.getElem?_eq_getElem i4⟩
      rw [Int.zero_add]
      refine ⟨rfl, _, rfl, _, rfl, _, _, _, _, rfl, rfl, SqL.of (s1 _ _ ha.1), atI_nat (v := V.str y) (by rw [List.getElem?_map, hy] <;> rfl), _, rfl, rfl, _, rfl, ite2 (fun e => ?_) (fun e => ?_)⟩
      · refine ⟨_, rfl, by show 2 ≤ sizeLine; decide, fun q hq => ?_⟩
        have s2 : Same H' (upd H' q (.tup [V.str "bound", V.int (i : Int)])) := Same.upd hq
        refine ⟨vs, s2 _ _ hv, ?_, fun x u hx => ?_, vs ++ [V.ref q], upd_same, by rw [List.length_append]; exact Nat.succ_le_succ lv, fun v hv2 => ?_⟩
        · exact Nat.lt_of_le_of_lt (show vs.length ≤ 1000 by omega) (by decide)
        · rw [upd_ne (ne_of_none hx hD)]
          exact s2 _ _ (s1 _ _ hx)
        · rcases List.mem_append.mp hv2 with h | h
          · obtain ⟨t, tA, tL⟩ := av v h
            exact ⟨t, (tA.mono (.same s2)).mono (TupS.lst (s2 _ _ hv)), tL⟩
          · rw [List.mem_singleton.mp h]
            refine ⟨.bnd i, (At.bnd upd_same).mono (TupS.lst (s2 _ _ hv)), i4, trivial, fun z => absurd i4 (by omega)⟩
      · exact ⟨s1, vs, hv, Nat.le_succ_of_le lv, av⟩
    obtain ⟨s1, vs, hv, lv, av⟩ := q
    have lv4 : vs.length ≤ 4 := by
      have lv : vs.length ≤ ((as.length : Nat) : Int).toNat := lv
      omega
    refine ⟨_, rfl, _, rfl, nl, rfl, ⟨_, SqL.of (s1 _ _ hn.1)⟩, fun D2 hD2 => lc_list (xs := ns.map V.str) (fun i H' => Same H1 H' ∧ ∃ us, H' D2 = some (.lst us) ∧ us.length = i ∧ ∀ v ∈ us, ∃ t, At H' v t ∧ Lf ns ks as.length 1 t)
      ⟨Same.upd hD2, [], upd_same, rfl, (fun v hv => nomatch hv)⟩ (fun i H' _ q => SqL.of (q.1 _ _ (s1 _ _ hn.1))) (fun i x H' hx q => ?_) (fun H2 q => ?_)⟩
    · obtain ⟨s2, us, hu, lu, au⟩ := q
      obtain ⟨y, hy, rfl⟩ : ∃ y, ns[i]? = some y ∧ x = V.str y := by
        rw [List.getElem?_map] at hx
        cases e : ns[i]? with
        | none => rw [e] at hx; exact nomatch hx
        | some y => rw [e] at hx; exact ⟨y, rfl, (Option.some.inj hx).symm⟩
      have i4 : i < ns.length := (List.getElem?_eq_some_iff.mp hy).1
      have yn := List.mem_of_getElem? hy
      refine ⟨rfl, ?_⟩
      unfold tYes
      simp only [if_true]
      refine ⟨_, rfl, _, rfl, by show 3 ≤ sizeLine; decide, fun q hq => ?_⟩
      have s3 : Same H' (upd H' q (.tup [V.str "name", V.str y, V.str kind])) := Same.upd hq
      refine ⟨us, s3 _ _ hu, ?_, fun x u hx => ?_, us ++ [V.ref q], upd_same, by rw [List.length_append, lu] <;> rfl, fun v hv2 => ?_⟩
      · exact Nat.lt_of_le_of_lt (show us.length ≤ 1000 by omega) (by decide)
      · rw [upd_ne (ne_of_none hx hD2)]
        exact s3 _ _ (s2 _ _ hx)
      · rcases List.mem_append.mp hv2 with h | h
        · obtain ⟨t, tA, tL⟩ := au v h
          exact ⟨t, (tA.mono (.same s3)).mono (TupS.lst (s3 _ _ hu)), tL⟩
        · rw [List.mem_singleton.mp h]
          exact ⟨.nam y kind, (At.nam upd_same).mono (TupS.lst (s3 _ _ hu)), ⟨⟨yn, gn y yn⟩, hkd, gkd⟩, trivial, fun _ => ⟨gn y yn, gkd⟩⟩
    obtain ⟨s2, us, hu, lu, au⟩ := q
    rw [List.length_map] at lu
    refine ⟨D, D2, vs, us, rfl, rfl, s2 _ _ hv, hu, ?_, fun q6 hq6 => ?_⟩
    · exact Nat.le_trans (show vs.length + us.length ≤ 1000 by omega) (by decide)
    have s3 : Same H (upd H2 q6 (.lst (vs ++ us))) := (s1.trans s2).trans (Same.upd hq6)
    have h6 : upd H2 q6 (.lst (vs ++ us)) q6 = some (.lst (vs ++ us)) := upd_same
    have av6 : ∀ v ∈ vs ++ us, ∃ t, At (upd H2 q6 (.lst (vs ++ us))) v t ∧ Lf ns ks as.length 1 t := fun v hv2 => by
      rcases List.mem_append.mp hv2 with h | h
      · obtain ⟨t, tA, tL⟩ := av v h
        exact ⟨t, tA.mono (.same (s2.trans (Same.upd hq6))), tL⟩
      · obtain ⟨t, tA, tL⟩ := au v h
        exact ⟨t, tA.mono (.same (Same.upd hq6)), tL⟩
    have l6 : 0 < (vs ++ us).length ∧ (vs ++ us).length ≤ 1000 := by rw [List.length_append]; omega
    have n6p := (hp.same (s1.trans s2)).not hq6
    generalize vs ++ us = lv6 at s3 h6 av6 l6 ⊢
    generalize upd H2 q6 (.lst lv6) = H3 at s3 h6 av6 ⊢
    have hd3 := s3 _ _ hd
    refine ⟨_, rfl, d, od, rfl, .inl ⟨kvs, hd3, fun D3 hD3 => lc_keys (fun i H' => Same H3 H' ∧ ∃ fs : List Str, H' D3 = some (.lst (fs.map V.str)) ∧ fs.length ≤ i ∧ ∀ x ∈ fs, ∃ v, (Sum.inr x, v) ∈ kvs)
      ⟨Same.upd hD3, [], upd_same, Nat.le_refl _, (fun v hv => nomatch hv)⟩ (fun i H' _ q => q.1 _ _ hd3) (fun i k v H' hkv q => ?_) (fun H4 q => ?_)⟩⟩
    · obtain ⟨s4, fs, hf, lf, af⟩ := q
      have mkv := List.mem_of_getElem? hkv
      have i16 : i < kvs.length := (List.getElem?_eq_some_iff.mp hkv).1
      obtain ⟨x, kd, a, tk, ts, e, _⟩ := fk _ mkv
      obtain ⟨rfl, rfl⟩ := Prod.mk.inj e
      obtain ⟨v', hv', mv'⟩ := valV_mem mkv
      obtain ⟨x', kd', a', tk', ts', e', ha', _⟩ := (fk _ mv').mono (Mu.same (s3.trans s4))
      obtain ⟨ex, rfl⟩ := Prod.mk.inj e'
      refine ⟨rfl, _, rfl, _, rfl, d, _, rfl, .inl ⟨kvs, Sum.inr x, .inr ⟨od, s4 _ _ hd3⟩, rfl, hv'.symm⟩, _, _, _, _, rfl, rfl, SqT.of ha'.1, atI_nat (j := 1) rfl, _, rfl, rfl, _, rfl, ite2 (fun e => ?_) (fun e => ?_)⟩
      · refine ⟨_, rfl, _, hf, ?_, fun y u hy => ?_, fs ++ [x], by rw [upd_same, List.map_append] <;> rfl, by rw [List.length_append]; exact Nat.succ_le_succ lf, fun y hy => ?_⟩
        · rw [List.length_map]
          exact Nat.lt_of_le_of_lt (show fs.length ≤ 1000 by omega) (by decide)
        · rw [upd_ne (ne_of_none hy hD3)]
          exact s4 _ _ hy
        · rcases List.mem_append.mp hy with h | h
          · exact af y h
          · rw [List.mem_singleton.mp h]
            exact ⟨_, mkv⟩
      · exact ⟨s4, fs, hf, Nat.le_succ_of_le lf, af⟩
    obtain ⟨s4, fs, hf, lf, af⟩ := q
    have s04 := s3.trans s4
    have p4 := hp.same s04
    have lf16 : fs.length ≤ 16 := Nat.le_trans lf lk
    have n3p := (hp.same s3).not hD3
    have end_ : ∀ {σ' : L2.St} {H' : Hp}, σ'[0]? = some (some (V.ref p)) → σ'[6]? = some (some (V.ref q6)) → ButS p H4 H' → StA H' p → (tOp (rIxL K) (tVar 6) (tCall spDraw [] E0 (tCons (tVar 0) (tCons (tCB (rLenK K) (tCons (tVar 6) tNil)) tNil)))) σ' H' Q := fun {σ' H'} e0 e6 b' p' => by
      refine pick_list e0 e6 p' (b' _ _ n6p (s4 _ _ h6)) n6p l6.1 l6.2 fun v H'' hv b'' p'' => ?_
      obtain ⟨t, tA, tL⟩ := av6 v hv
      have bb : ButS p H4 H'' := b'.trans b''
      exact kq v t H'' ((Same.but s04).trans bb) p'' ((tA.mono (.same s4)).mono (p4.tupS bb)) (tL.le (by omega))
    refine ⟨_, rfl, Nat.zero_le _, fun q5 hq5 => ?_⟩
    have s5 : Same H4 (upd H4 q5 (.lst [])) := Same.upd hq5
    have nil5 : upd H4 q5 (.lst []) q5 = some (.lst []) := upd_same
    have p5 := p4.same s5
    generalize upd H4 q5 (.lst []) = H5 at s5 nil5 p5 ⊢
    have hf5 := s5 _ _ hf
    have gfs : ∀ x ∈ fs, G x := fun x hx => by
      obtain ⟨v, hv⟩ := af x hx
      obtain ⟨x', _, _, _, _, e, _, _, g, _⟩ := fk _ hv
      obtain ⟨ex, _⟩ := Prod.mk.inj e
      injection ex with ex
      rw [ex]
      exact g
    refine ⟨_, _, .lst (SqL.of hf5) (strs_dp fs), .lst (SqL.of nil5) .nil, shaped_strs gfs, shaped_strs (ts := []) (fun _ h => nomatch h), _, rfl, ite2 (fun ef => ?_) (fun _ => end_ rfl rfl (Same.but s5) p5)⟩
    have f0 : 0 < fs.length := by
      cases fs with
      | nil => rw [show PyData.eqv (.list (List.map PyData.str [])) (.list []) = true by simp [PyData.eqv, PyData.eqvAll]] at ef; exact nomatch ef
      | cons _ _ => simp
    refine ⟨_, rfl, _, _, rfl, rfl, _, rfl, ite2 (fun ed => ?_) (fun _ => end_ rfl rfl (Same.but s5) p5)⟩
    obtain ⟨e, rfl⟩ : ∃ e, dp = e + 1 := ⟨dp - 1, by have := of_decide_eq_true ed; omega⟩
    refine ⟨_, rfl, p, 3, rfl, p5, by decide, by decide, fun r6 H6 l6' b6 p6 => ⟨_, _, rfl, rfl, _, rfl, ite2 (fun _ => ?_) (fun _ => end_ rfl rfl ((Same.but s5).trans b6) p6)⟩⟩
    have b46 : ButS p H4 H6 := (Same.but s5).trans b6
    refine pick_list rfl rfl p6 (b46 _ _ n3p hf) n3p (by rw [List.length_map]; exact f0) (by rw [List.length_map]; omega) fun v H7 hv b7 p7 => ?_
    obtain ⟨x, hx, rfl⟩ := List.mem_map.mp hv
    obtain ⟨v0, hv0⟩ := af x hx
    obtain ⟨v1, hv1, mv1⟩ := valV_mem hv0
    have b47 := b46.trans b7
    have b07 : ButS p H H7 := (Same.but s04).trans b47
    have fk7 : ∀ q ∈ kvs, FAt [p] ks H7 q := fun q hq => (fk q hq).mono (.but b07 (by simp))
    obtain ⟨x', kd, a, tk, ts, e', ha', htk, gx', hkd', lts, mts⟩ := fk7 _ mv1
    obtain ⟨ex, rfl⟩ := Prod.mk.inj e'
    have gx := gfs x hx
    have hd7 := b07 _ _ ndp hd
    refine ⟨_, rfl, _, rfl, d, _, rfl, .inl ⟨kvs, Sum.inr x, .inr ⟨od, hd7⟩, rfl, hv1.symm⟩, _, _, _, _, rfl, rfl, SqT.of ha'.1, atI_nat (j := 0) rfl, tk, rfl, ⟨_, SqL.of htk.1⟩, fun D4 hD4 => ?_⟩
    have n4p := p7.not hD4
    have m47 : ∀ {H'}, Mu [D4, p] (upd H7 D4 (.lst [])) H' → ButS p H7 H' := fun {H'} m x u nx hx => m _ _ (by simp [nx, ne_of_none hx hD4]) (by rw [upd_ne (ne_of_none hx hD4)]; exact hx)
    refine lc_list (xs := ts.map V.str) (fun i H' => Mu [D4, p] (upd H7 D4 (.lst [])) H' ∧ StA H' p ∧ ∃ (vs : List V) (ps : List T), H' D4 = some (.lst vs) ∧ AtL H' vs ps ∧ ps.length = i ∧ ∀ t ∈ ps, Lf ns ks as.length (e + 1) t)
      ⟨.refl _, p7.upd n4p, [], [], upd_same, .nil, rfl, (fun v hv => nomatch hv)⟩ (fun i H' _ q => SqL.of (m47 q.1 _ _ (fun z => htk.2 (by simp [z])) htk.1)) (fun i y H8 hy q => ?_) (fun H8 q => ?_)
    · obtain ⟨m8, p8, us, ps, h8, aL, lp, pL⟩ := q
      have i3 : i < ts.length := by
        have := (List.getElem?_eq_some_iff.mp hy).1
        rwa [List.length_map] at this
      obtain ⟨one, hone, rfl⟩ : ∃ one, one ∈ ts ∧ y = V.str one := by
        obtain ⟨z, hz, e⟩ := List.mem_map.mp (List.mem_of_getElem? hy)
        exact ⟨z, hz, e.symm⟩
      refine ⟨rfl, ?_⟩
      unfold tYes
      simp only [if_true]
      have b78 := m47 m8
      have b08 := b07.trans b78
      refine ⟨_, rfl, _, rfl, _, rfl, _, rfl, _, rfl, _, rfl, _, _, rfl, rfl, p, d, nl, ar, od, one, e, kvs, ns, ks, as, ?_, by omega, p8, b08 _ _ ndp hd, lk, (fun q hq => (fk q hq).mono (.but b08 (by simp))), hn.mono (.but b08 (by simp)), n0, n4, gn, ha.mono (.but b08 (by simp)), a4, mts one hone, gk, fun v' t H9 b9 p9 tA tL => ?_⟩
      · show [V.ref p, V.ref d, V.str one, V.ref nl, V.ref ar, V.int (((e + 1 : Nat) : Int) - 1)] = _
        rw [show ((e + 1 : Nat) : Int) - 1 = (e : Int) by omega]
      · have h9 := b9 _ _ n4p h8
        have ul := aL.length
        refine ⟨us, h9, ?_, (m8.trans (.but b9 (by simp))).trans (.upd (by simp)), p9.upd n4p, us ++ [v'], ps ++ [t], upd_same, ((aL.mono (p8.tupS b9)).snoc tA).mono (TupS.lst h9), by rw [List.length_append, lp] <;> rfl, fun t' ht' => ?_⟩
        · exact Nat.lt_of_le_of_lt (show us.length ≤ 1000 by omega) (by decide)
        · rcases List.mem_append.mp ht' with h | h
          · exact pL t' h
          · rw [List.mem_singleton.mp h]
            exact tL
    · obtain ⟨m8, p8, us, ps, h8, aL, lp, pL⟩ := q
      rw [List.length_map] at lp
      refine ⟨_, rfl, _, rfl, D4, us, rfl, .inl ⟨SqL.of h8, fun u hu => ⟨by show 3 ≤ sizeLine; decide, fun r hr => ?_⟩⟩⟩
      have s9 : Same H8 (upd H8 u (.tup us)) := Same.upd hu
      have s10 : Same (upd H8 u (.tup us)) (upd (upd H8 u (.tup us)) r (.tup [V.str "made", V.str x, V.ref u])) := Same.upd hr
      refine kq _ (.mad x ps) _ ((b07.trans (m47 m8)).same (s9.trans s10)) (p8.same (s9.trans s10)) (.mad upd_same (s10 _ _ upd_same) (aL.mono (.same (s9.trans s10)))) ⟨⟨⟨by omega, gx⟩, fun q hq => (pL q hq).1⟩, fun q hq => (pL q hq).2.1, fun z => ⟨⟨by omega, gx⟩, fun q hq => (pL q hq).2.2 z⟩⟩
end
end KD

/-! KDi: _law_saying. -/
namespace KD
open PySem PySem.Spec PyProof.Rows L2 LamX NdefX LamF KM
/-- what a drawn saying is -/
def Sy (ns ks : List Str) (m h : Nat) (t : T) : Prop := ok ns ks h m t ∧ nz h t
theorem Sy.le {ns ks : List Str} {m h h' : Nat} {t : T} (l : Sy ns ks m h t) (e : h ≤ h') : Sy ns ks m h' t := ⟨ok_le l.1 e (Nat.le_refl _), nz_le l.2 e⟩
def spSay (h : Nat) : Sp := fun vs H Q _ => ∃ (p d kl nl ar : Addr) (od : Obj) (dp mo : Nat) (kvs : List (L2.Key × V)) (ns ks kn as : List Str), vs = [.ref p, .ref d, .ref kl, .ref nl, .ref ar, .int dp, .int mo] ∧ dp < h ∧ mo ≤ 2 ∧ StA H p ∧ H d = some (.frz od (.dK kvs)) ∧ kvs.length ≤ 16 ∧ (∀ q ∈ kvs, FAt [p] ks H q) ∧
  Sb [p] H kl (.lst (kn.map V.str)) ∧ 0 < kn.length ∧ kn.length ≤ 4 ∧ (∀ x ∈ kn, x ∈ ks) ∧ Sb [p] H nl (.lst (ns.map V.str)) ∧ 0 < ns.length ∧ ns.length ≤ 4 ∧ (∀ x ∈ ns, G x) ∧ Sb [p] H ar (.lst (as.map V.str)) ∧ as.length + dp ≤ 4 ∧ (∀ x ∈ ks, G x) ∧
  ∀ v' t H', ButS p H H' → StA H' p → At H' v' t → Sy ns ks as.length (dp + mo + 2) t → Q v' H'
abbrev sSa : Stmt := top 22
abbrev pSa : List Str := ["_law_state_here", "_law_makes_here", "_law_kinds_here", "_law_names", "_law_around", "_law_deep", "_law_most"]
abbrev nSa : List Str := ["_law_state_here", "_law_makes_here", "_law_kinds_here", "_law_names", "_law_around", "_law_deep", "_law_most", "_law_way", "_law_kind", "_law_one", "_law_other"]
theorem scSa : FnScope nSa pSa (defScope sSa) := ⟨rfl, rfl, rfl, by decide +kernel, rfl, by decide +kernel, by decide +kernel⟩
theorem way3 {w : Nat} (h1 : 4 ≤ w) (h2 : w ≤ 6) : ∃ nw : Nw, nw ≠ .no ∧ atI [V.str "and", V.str "or", V.str "so"] ((w : Int) - 4) = some (V.str nw.s) := by
  rcases (show w = 4 ∨ w = 5 ∨ w = 6 by omega) with rfl | rfl | rfl
  · exact ⟨.an, by decide, rfl⟩
  · exact ⟨.orr, by decide, rfl⟩
  · exact ⟨.sw, by decide, rfl⟩
theorem way2 {w : Nat} (h1 : 7 ≤ w) (h2 : w ≤ 8) : ∃ bw : Bw, atI [V.str "all", V.str "some"] ((w : Int) - 7) = some (V.str bw.s) := by
  rcases (show w = 7 ∨ w = 8 by omega) with rfl | rfl
  · exact ⟨.al, rfl⟩
  · exact ⟨.so, rfl⟩
section
variable {P : Program} {w : World} {K : PySem.W.Frag} {mg : Str → Option Value} {base : Heap} {f fr' ft : Addr} {fd fdd fdt : FuncData}
theorem ok_say (F : Fun K "_law_saying" "_law_saying" sSa f fd) (bs : Binds K fd pSa []) (ms : mg "_law_saying" = some (.ref f)) (Ft : Fun K "_law_term" "_law_term" sTe ft fdt) (bt : Binds K fdt pTe []) (mt : mg "_law_term" = some (.ref ft))
    (Fd : Fun K "_law_draw" "_law_draw" (top 15) fr' fdd) (bd : Binds K fdd ["_law_state_here", "_law_many"] []) (md : mg "_law_draw" = some (.ref fr')) (X : TxtL mg) : ∀ h, FnOk P w K mg base CX0 (5 + h) f fd pSa (spSay h)
  | 0 => by
    refine F.ok scSa (fun vs H Q E h => ?_) (fun cdv A0 outer s H vs Q E hr h => ?_)
    · obtain ⟨_, _, _, _, _, _, _, _, _, _, _, _, _, rfl, _⟩ := h
      rfl
    · obtain ⟨_, _, _, _, _, _, _, _, _, _, _, _, _, _, z, _⟩ := h
      exact absurd z (Nat.not_lt_zero _)
  | h + 1 => by
    have IH := ok_say F bs ms Ft bt mt Fd bd md X h
    have TT := ok_term (P := P) (w := w) (base := base) Ft bt mt Fd bd md X 3
    rw [show 5 + (h + 1) = (5 + h) + 1 by omega]
    refine F.ok scSa (fun vs H Q E h => ?_) (fun cdv A0 outer s H vs Q E hr hh => ?_)
    · obtain ⟨_, _, _, _, _, _, _, _, _, _, _, _, _, rfl, _⟩ := h
      rfl
    obtain ⟨p, d, kl, nl, ar, od, dp, mo, kvs, ns, ks, kn, as, rfl, hdp, hmo, hp, hd, lk, fk, hkl, k0, k4, kks, hn, n0, n4, gn, ha, a4, gk, kq⟩ := hh
    refine ⟨_, /-T-/(pss_cons (ps_set (i := 7) scSa.nd rfl (Or.inl rfl) (pe_call (ok_draw Fd 0) (hr.mono (by omega)) rfl md Fd.kp bd .nil pass0 (pa_cons (pv 0) (pa_cons pe_int pa_nil))))
      (pss_cons (ps_if (pt_cmpR op_eq (pv 7) pe_int (nomark _)) (pss_one
        (ps_ret (pe_tup (pa_cons pe_str pa_nil)))) pss_nil)
      (pss_cons (ps_set (i := 8) scSa.nd rfl (Or.inl rfl) (pe_ix ix_list (pv 2) (pe_call (ok_draw Fd 0) (hr.mono (by omega)) rfl md Fd.kp bd .nil pass0 (pa_cons (pv 0) (pa_cons (pe_callB call_len_seq (by rfl) X.len PySem.boot_len (pa_cons (pv 2) pa_nil)) pa_nil))) (fun _ _ => rfl)))
      (pss_cons (ps_if (PW.pt (pw_or (pt_cmpR op_lt (pv 7) pe_int (nomark _)) (pw_or1 (pt_cmpR op_eq (pv 5) pe_int (nomark _))))) (pss_cons (ps_set (i := 9) scSa.nd rfl (Or.inl rfl) (pe_call (TT) (hr.mono (by omega)) rfl mt Ft.kp bt .nil pass0 (pa_cons (pv 0) (pa_cons (pv 1) (pa_cons (pv 8) (pa_cons (pv 3) (pa_cons (pv 4) (pa_cons (pv 6) pa_nil))))))))
      (pss_one
        (ps_ret (pe_tup (pa_cons pe_str (pa_cons (pv 9) (pa_cons (pe_call (TT) (hr.mono (by omega)) rfl mt Ft.kp bt .nil pass0 (pa_cons (pv 0) (pa_cons (pv 1) (pa_cons (pv 8) (pa_cons (pv 3) (pa_cons (pv 4) (pa_cons (pv 6) pa_nil))))))) pa_nil))))))) pss_nil)
      (pss_cons (ps_if (pt_cmpR op_eq (pv 7) pe_int (nomark _)) (pss_one
        (ps_ret (pe_tup (pa_cons pe_str (pa_cons (pe_call (IH) hr rfl ms F.kp bs .nil pass0 (pa_cons (pv 0) (pa_cons (pv 1) (pa_cons (pv 2) (pa_cons (pv 3) (pa_cons (pv 4) (pa_cons (pe_op op_sub (pv 5) pe_int) (pa_cons (pv 6) pa_nil)))))))) pa_nil))))) pss_nil)
      (pss_cons (ps_if (pt_cmpR op_lt (pv 7) pe_int (nomark _)) (pss_cons (ps_set (i := 9) scSa.nd rfl (Or.inl rfl) (pe_call (IH) hr rfl ms F.kp bs .nil pass0 (pa_cons (pv 0) (pa_cons (pv 1) (pa_cons (pv 2) (pa_cons (pv 3) (pa_cons (pv 4) (pa_cons (pe_op op_sub (pv 5) pe_int) (pa_cons (pv 6) pa_nil)))))))))
      (pss_cons (ps_set (i := 10) scSa.nd rfl (Or.inl rfl) (pe_call (IH) hr rfl ms F.kp bs .nil pass0 (pa_cons (pv 0) (pa_cons (pv 1) (pa_cons (pv 2) (pa_cons (pv 3) (pa_cons (pv 4) (pa_cons (pe_op op_sub (pv 5) pe_int) (pa_cons (pv 6) pa_nil)))))))))
      (pss_one
        (ps_ret (pe_tup (pa_cons (pe_ix ix_list (pe_lst (pa_cons pe_str (pa_cons pe_str (pa_cons pe_str pa_nil)))) (pe_op op_sub (pv 7) pe_int) (fun _ _ => rfl)) (pa_cons (pv 9) (pa_cons (pv 10) pa_nil)))))))) pss_nil)
      (pss_one
        (ps_ret (pe_tup (pa_cons (pe_ix ix_list (pe_lst (pa_cons pe_str (pa_cons pe_str pa_nil))) (pe_op op_sub (pv 7) pe_int) (fun _ _ => rfl)) (pa_cons (pv 8) (pa_cons (pe_call (IH) hr rfl ms F.kp bs .nil pass0 (pa_cons (pv 0) (pa_cons (pv 1) (pa_cons (pv 2) (pa_cons (pv 3) (pa_cons (pe_op op_cat (pe_lst (pa_cons (pv 8) pa_nil)) (pv 4)) (pa_cons (pe_op op_sub (pv 5) pe_int) (pa_cons (pv 6) pa_nil)))))))) pa_nil))))))))))))/-E-/, ?_⟩
/-B-/
    have nkp : kl ≠ p := fun z => hkl.2 (by simp [z])
    have ndp : d ≠ p := by
      intro e
      obtain ⟨_, _, z, _⟩ := hp
      rw [e, z] at hd
      cases hd
    have term_ : ∀ {H' : Hp} {kind : Str} {Qe : VK}, kind ∈ ks → ButS p H H' → StA H' p → (∀ v' t H'', ButS p H' H'' → StA H'' p → At H'' v' t → Lf ns ks as.length (mo + 1) t → Qe v' H'') → spTerm 3 [.ref p, .ref d, .str kind, .ref nl, .ref ar, .int mo] H' Qe E0 := fun {H' kind Qe} hk b' p' c =>
      ⟨p, d, nl, ar, od, kind, mo, kvs, ns, ks, as, rfl, by omega, p', b' _ _ ndp hd, lk, (fun q hq => (fk q hq).mono (.but b' (by simp))), hn.mono (.but b' (by simp)), n0, n4, gn, ha.mono (.but b' (by simp)), by omega, hk, gk, c⟩
    have say_ : ∀ {H' : Hp} {e : Nat} {ar' : Addr} {as' : List Str} {Qe : VK}, dp = e + 1 → ButS p H H' → StA H' p → Sb [p] H' ar' (.lst (as'.map V.str)) → as'.length + e ≤ 4 → (∀ v' t H'', ButS p H' H'' → StA H'' p → At H'' v' t → Sy ns ks as'.length (e + mo + 2) t → Qe v' H'') →
        spSay h [.ref p, .ref d, .ref kl, .ref nl, .ref ar', .int ((dp : Int) - 1), .int mo] H' Qe E0 := fun {H' e ar' as' Qe} ed b' p' ha' la c =>
      ⟨p, d, kl, nl, ar', od, e, mo, kvs, ns, ks, kn, as', by rw [show (dp : Int) - 1 = (e : Int) by omega], by omega, hmo, p', b' _ _ ndp hd, lk, (fun q hq => (fk q hq).mono (.but b' (by simp))), hkl.mono (.but b' (by simp)), k0, k4, kks, hn.mono (.but b' (by simp)), n0, n4, gn, ha', la, gk, c⟩
    refine ⟨_, rfl, p, 9, rfl, hp, by decide, by decide, fun w H1 l1 b1 p1 => ?_⟩
    refine ⟨_, rfl, rfl, _, rfl, ite2 (fun _ => ?_) (fun _ => ?_)⟩
    · refine ⟨by show 1 ≤ sizeLine; decide, fun r hr => kq _ (.nod .no []) _ (b1.same (Same.upd hr)) (p1.same (Same.upd hr)) (.nod (vs := []) upd_same .nil) ⟨⟨by decide, fun q hq => nomatch hq⟩, fun _ => rfl, fun q hq => nomatch hq⟩⟩
    refine pick_list rfl rfl p1 (b1 _ _ nkp hkl.1) nkp (by rw [List.length_map]; exact k0) (by rw [List.length_map]; omega) fun kv H2 hv b2 p2 => ?_
    obtain ⟨kind, hkn, rfl⟩ := List.mem_map.mp hv
    have hkind := kks kind hkn
    have b02 := b1.trans b2
    have same_ : ∀ {σ' : L2.St} {Dn : Ends}, Dn.rt = Q → σ'[0]? = some (some (V.ref p)) → σ'[1]? = some (some (V.ref d)) → σ'[8]? = some (some (V.str kind)) → σ'[3]? = some (some (V.ref nl)) → σ'[4]? = some (some (V.ref ar)) → σ'[6]? = some (some (V.int mo)) → σ'.length = 11 →
        (tSeq (tAsg (tCall (spTerm 3) [] E0 (tCons (tVar 0) (tCons (tVar 1) (tCons (tVar 8) (tCons (tVar 3) (tCons (tVar 4) (tCons (tVar 6) tNil))))))) (gName 9)) (tRet (tTup (tCons (tC (V.str "same")) (tCons (tVar 9) (tCons (tCall (spTerm 3) [] E0 (tCons (tVar 0) (tCons (tVar 1) (tCons (tVar 8) (tCons (tVar 3) (tCons (tVar 4) (tCons (tVar 6) tNil))))))) tNil)))))) Dn σ' H2 := by
      intro σ' Dn eD e0 e1 e8 e3 e4 e6 eL
      refine ⟨_, e0, _, e1, _, e8, _, e3, _, e4, _, e6, term_ hkind b02 p2 fun v1 t1 H3 b3 p3 tA1 tL1 => ?_⟩
      have st : ∀ i, i ≠ 9 → (σ'.set 9 (some v1))[i]? = σ'[i]? := fun i ne => List.getElem?_set_ne (Ne.symm ne)
      refine ⟨_, List.getElem?_set_self (by omega), _, (st 0 (by decide)).trans e0, _, (st 1 (by decide)).trans e1, _, (st 8 (by decide)).trans e8, _, (st 3 (by decide)).trans e3, _, (st 4 (by decide)).trans e4, _, (st 6 (by decide)).trans e6, term_ hkind (b02.trans b3) p3 fun v2 t2 H4 b4 p4 tA2 tL2 => ⟨by show 3 ≤ sizeLine; decide, fun r hr => ?_⟩⟩
      have s5 : Same H4 (upd H4 r (.tup [V.str "same", v1, v2])) := Same.upd hr
      rw [eD]
      refine kq _ (.nod .same [t1, t2]) _ (((b02.trans b3).trans b4).same s5) (p4.same s5) (.nod upd_same (.cons ((tA1.mono (p3.tupS b4)).mono (.same s5)) (.cons (tA2.mono (.same s5)) .nil))) (Sy.le (h := mo + 2) ⟨⟨Nat.le_refl 2, fun q hq => ?_⟩, (fun z => nomatch z), fun q hq => ?_⟩ (by omega))
      · rcases List.mem_cons.mp hq with rfl | hq
        · exact tL1.1
        · rw [List.mem_singleton.mp hq]; exact tL2.1
      · rcases List.mem_cons.mp hq with rfl | hq
        · exact tL1.2.1
        · rw [List.mem_singleton.mp hq]; exact tL2.2.1
    refine ⟨_, rfl, _, _, rfl, rfl, _, rfl, ite2 (fun _ => iteT (same_ rfl rfl rfl rfl rfl rfl rfl rfl)) (fun e3 => ⟨_, rfl, rfl, _, rfl, ite2 (fun _ => same_ rfl rfl rfl rfl rfl rfl rfl rfl) (fun e0 => ?_)⟩)⟩
    have w3 : 3 ≤ w := by
      have : ¬ ((w : Int) < 3) := fun z => e3 (decide_eq_true z)
      omega
    obtain ⟨e, ed⟩ : ∃ e, dp = e + 1 := ⟨dp - 1, by
      have : dp ≠ 0 := fun z => e0 (by rw [z]; exact decide_eq_true rfl)
      omega⟩
    have fin : ∀ {m' : Nat} {t : T}, Sy ns ks m' (e + mo + 2 + 1) t → Sy ns ks m' (dp + mo + 2) t := fun {m' t} z => z.le (by omega)
    have ha2 := ha.mono (.but b02 (by simp))
    refine ⟨_, rfl, rfl, _, rfl, ite2 (fun _ => ?_) (fun e4 => ?_)⟩
    · refine ⟨_, rfl, _, rfl, _, rfl, _, rfl, _, rfl, _, rfl, _, _, rfl, rfl, _, rfl, say_ ed b02 p2 ha2 (by omega) fun v1 t1 H3 b3 p3 tA tL => ⟨by show 2 ≤ sizeLine; decide, fun r hr => ?_⟩⟩
      have s4 : Same H3 (upd H3 r (.tup [V.str "not", v1])) := Same.upd hr
      exact kq _ (.nod .nt [t1]) _ ((b02.trans b3).same s4) (p3.same s4) (.nod upd_same (.cons (tA.mono (.same s4)) .nil)) (fin ⟨⟨by show 1 ≤ 2; decide, fun q hq => by rw [List.mem_singleton.mp hq]; exact tL.1⟩, (fun z => nomatch z), fun q hq => by rw [List.mem_singleton.mp hq]; exact tL.2⟩)
    have w4 : 4 ≤ w := by
      have : w ≠ 3 := fun z => e4 (by rw [z]; exact decide_eq_true rfl)
      omega
    refine ⟨_, rfl, _, _, rfl, rfl, _, rfl, ite2 (fun e7 => ?_) (fun e7 => ?_)⟩
    · have w6 : w ≤ 6 := by
        have := of_decide_eq_true e7
        omega
      obtain ⟨nw, nwn, hnw⟩ := way3 w4 w6
      refine ⟨_, rfl, _, rfl, _, rfl, _, rfl, _, rfl, _, rfl, _, _, rfl, rfl, _, rfl, say_ ed b02 p2 ha2 (by omega) fun v1 t1 H3 b3 p3 tA1 tL1 => ?_⟩
      refine ⟨_, rfl, _, rfl, _, rfl, _, rfl, _, rfl, _, rfl, _, _, rfl, rfl, _, rfl, say_ ed (b02.trans b3) p3 (ha2.mono (.but b3 (by simp))) (by omega) fun v2 t2 H4 b4 p4 tA2 tL2 => ?_⟩
      refine ⟨by show 3 ≤ sizeLine; decide, fun q5 hq5 => ?_⟩
      have s5 : Same H4 (upd H4 q5 (.lst [V.str "and", V.str "or", V.str "so"])) := Same.upd hq5
      refine ⟨_, rfl, _, _, rfl, rfl, _, _, _, _, rfl, rfl, SqL.of upd_same, hnw, _, rfl, _, rfl, by show 3 ≤ sizeLine; decide, fun r hr => ?_⟩
      have s6 := s5.trans (Same.upd (o := .tup [V.str nw.s, v1, v2]) hr)
      refine kq _ (.nod nw [t1, t2]) _ (((b02.trans b3).trans b4).same s6) (p4.same s6) (.nod upd_same (.cons ((tA1.mono (p3.tupS b4)).mono (.same s6)) (.cons (tA2.mono (.same s6)) .nil))) (fin ⟨⟨Nat.le_refl 2, fun q hq => ?_⟩, (fun z => absurd z nwn), fun q hq => ?_⟩)
      · rcases List.mem_cons.mp hq with rfl | hq
        · exact tL1.1
        · rw [List.mem_singleton.mp hq]; exact tL2.1
      · rcases List.mem_cons.mp hq with rfl | hq
        · exact tL1.2
        · rw [List.mem_singleton.mp hq]; exact tL2.2
    · have w7 : 7 ≤ w := by
        have : ¬ ((w : Int) < 7) := fun z => e7 (decide_eq_true z)
        omega
      obtain ⟨bw, hbw⟩ := way2 w7 (by omega)
      refine ⟨by show 2 ≤ sizeLine; decide, fun q5 hq5 => ?_⟩
      have s5 : Same H2 (upd H2 q5 (.lst [V.str "all", V.str "some"])) := Same.upd hq5
      refine ⟨_, rfl, _, _, rfl, rfl, _, _, _, _, rfl, rfl, SqL.of upd_same, hbw, _, rfl, ?_⟩
      refine ⟨_, rfl, _, rfl, _, rfl, _, rfl, _, rfl, by show 1 ≤ sizeLine; decide, fun q6 hq6 => ?_⟩
      have s6 := s5.trans (Same.upd (o := .lst [V.str kind]) hq6)
      have ha6 := ha2.mono (.same s6)
      have k6 : upd (upd H2 q5 (.lst [V.str "all", V.str "some"])) q6 (.lst [V.str kind]) q6 = some (.lst [V.str kind]) := upd_same
      generalize upd (upd H2 q5 (.lst [V.str "all", V.str "some"])) q6 (.lst [V.str kind]) = H6 at s6 ha6 k6 ⊢
      refine ⟨_, rfl, _, _, _, _, rfl, rfl, k6, ha6.1, ?_, fun q7 hq7 => ?_⟩
      · rw [List.length_map]
        exact Nat.le_trans (show 1 + as.length ≤ 1000 by omega) (by decide)
      have s7 : Same H6 (upd H6 q7 (.lst ([V.str kind] ++ as.map V.str))) := Same.upd hq7
      have p7 := p2.same (s6.trans s7)
      have n7p := (p2.same s6).not hq7
      have ha7 : Sb [p] (upd H6 q7 (.lst ([V.str kind] ++ as.map V.str))) q7 (.lst ((kind :: as).map V.str)) := ⟨by rw [upd_same] <;> rfl, by simp [n7p]⟩
      have b27 := b02.same (s6.trans s7)
      refine ⟨_, rfl, _, _, rfl, rfl, _, rfl, say_ ed b27 p7 ha7 (by rw [List.length_cons]; omega) fun v1 t1 H8 b8 p8 tA tL => ⟨by show 3 ≤ sizeLine; decide, fun r hr => ?_⟩⟩
      have s9 : Same H8 (upd H8 r (.tup [V.str bw.s, V.str kind, v1])) := Same.upd hr
      exact kq _ (.bin bw kind t1) _ ((b27.trans b8).same s9) (p8.same s9) (.bin upd_same (tA.mono (.same s9))) (fin ⟨⟨⟨hkind, gk kind hkind⟩, tL.1⟩, tL.2⟩)
end
end KD

/-! KDj: _law_right. -/
namespace KD
open PySem PySem.Spec PyProof.Rows L2 LamX NdefX LamF KM
/-- a def that may be called by its name -/
structure Cal (K : PySem.W.Frag) (mg : Str → Option Value) (x : Str) (ps : List Str) (f : Addr) (fd : FuncData) : Prop where
  kp : PySem.W.keepIn K (.ref f) = true
  b : Binds K fd ps []
  m : mg x = some (.ref f)
theorem hi_chg {g : T → Nat → T} {c : Nat} (hg : ∀ t d, hi 1 t → hi (c + 1) (g t d)) : ∀ {h d : Nat} {t : T}, hi h t → hi (h + c) (chg g h d t)
  | 0, _, _, z => z.elim
  | h + 1, d, .nam x k, q => by
    rw [show h + 1 + c = h + (c + 1) by omega]
    exact hi_le (hg (.nam x k) d q) (by omega)
  | h + 1, d, .bnd n, q => by
    rw [show h + 1 + c = h + (c + 1) by omega]
    exact hi_le (hg (.bnd n) d trivial) (by omega)
  | h + 1, d, .var n, q => by
    rw [show h + 1 + c = (h + c) + 1 by omega]
    trivial
  | h + 1, d, .mad f ps, q => by
    rw [show h + 1 + c = (h + c) + 1 by omega]
    refine ⟨⟨by rw [List.length_map]; exact q.1.1, q.1.2⟩, fun p hp => ?_⟩
    obtain ⟨p', hp', e⟩ := List.mem_map.mp hp
    rw [← e]
    exact hi_chg hg (q.2 p' hp')
  | h + 1, d, .bin w k a, q => by
    rw [show h + 1 + c = (h + c) + 1 by omega]
    exact ⟨q.1, hi_chg hg (h := h) q.2⟩
  | h + 1, d, .bnn w k n a, q => by
    rw [show h + 1 + c = (h + c) + 1 by omega]
    exact ⟨q.1, hi_le (h := h) q.2 (by omega)⟩
  | h + 1, d, .nod w ps, q => by
    rw [show h + 1 + c = (h + c) + 1 by omega]
    refine ⟨by rw [List.length_map]; exact q.1, fun p hp => ?_⟩
    obtain ⟨p', hp', e⟩ := List.mem_map.mp hp
    rw [← e]
    exact hi_chg hg (q.2 p' hp')
theorem ok_open1 {ns ns' ks : List Str} {x k : Str} (hx : x ∈ ns' ∧ G x) (hk : k ∈ ks ∧ G k) (hs : ∀ y ∈ ns, y ∈ ns') : ∀ {h j d : Nat} {t : T}, ok ns ks h j t → ok ns' ks h j (chg (gOpen (.nam x k)) h d t)
  | 0, _, _, _, z => z.elim
  | h + 1, j, d, .nam y i, q => ⟨⟨hs y q.1.1, q.1.2⟩, q.2⟩
  | h + 1, j, d, .bnd n, q => by
    show ok ns' ks (h + 1) j (if n = d then T.nam x k else T.bnd n)
    by_cases e : n = d
    · rw [if_pos e]; exact ⟨hx, hk⟩
    · rw [if_neg e]; exact q
  | h + 1, j, d, .var n, q => q.elim
  | h + 1, j, d, .mad f ps, q => by
    refine ⟨⟨by rw [List.length_map]; exact q.1.1, q.1.2⟩, fun p hp => ?_⟩
    obtain ⟨p', hp', e⟩ := List.mem_map.mp hp
    rw [← e]
    exact ok_open1 hx hk hs (q.2 p' hp')
  | h + 1, j, d, .bin w kk a, q => ⟨q.1, ok_open1 hx hk hs (h := h) q.2⟩
  | h + 1, j, d, .bnn _ _ _ _, q => q.elim
  | h + 1, j, d, .nod w ps, q => by
    refine ⟨by rw [List.length_map]; exact q.1, fun p hp => ?_⟩
    obtain ⟨p', hp', e⟩ := List.mem_map.mp hp
    rw [← e]
    exact ok_open1 hx hk hs (q.2 p' hp')
def strange : Str := "strange"
theorem G_strange : G strange := by unfold G; decide +kernel
def spRight (Ts : List (Addr × Str)) : Sp := fun vs H Q _ => ∃ (vb vt : V) (kind x : Str) (t u : T) (ns ks : List Str), vs = [vb, .str kind, vt, .str x] ∧ At H vb t ∧ ok ns ks 5 1 t ∧ At H vt u ∧ tm 2 u ∧ ok ns ks 2 0 u ∧ strange ∉ ns ∧ kind ∈ ks ∧ G kind ∧ G x ∧ Tabs Ts H ∧ ∀ H', ExtN H H' → Tabs Ts H' → Q (.bl true) H'
abbrev nRi : List Str := ["_law_body", "_law_kind", "_law_term_here", "_law_x", "_law_called", "_law_saying_here"]
theorem scRi : FnScope nRi ["_law_body", "_law_kind", "_law_term_here", "_law_x"] (defScope (top 27)) := ⟨rfl, rfl, rfl, by decide +kernel, rfl, by decide +kernel, by decide +kernel⟩
section
variable {P : Program} {w : World} {K : PySem.W.Frag} {mg : Str → Option Value} {base : Heap} {f fn fx fu fo fs fp : Addr} {fd fdn fdx fdu fdo fds fdp : FuncData} {Ts : List (Addr × Str)}
theorem ok_right (F : Fun K "_law_right" "_law_right" (top 27) f fd) (Cn : Cal K mg "_law_named" ["_law_thing", "_law_around"] fn fdn) (hNm : ∀ h, FnOk P w K mg base CX0 (1 + h) fn fdn ["_law_thing", "_law_around"] (spNamed h))
    (Ce : Cal K mg "_law_exchanged" ["_law_thing", "_law_old", "_law_new"] fx fdx) (hEx : ∀ h, FnOk P w K mg base CX0 (1 + h) fx fdx ["_law_thing", "_law_old", "_law_new"] (spEx h))
    (Cu : Cal K mg "_law_unnamed" ["_law_thing", "_law_around"] fu fdu) (hUn : ∀ h, FnOk P w K mg base CX0 (1 + h) fu fdu ["_law_thing", "_law_around"] (spUn h))
    (Co : Cal K mg "opened" ["body", "term"] fo fdo) (hOp : ∀ h, FnOk P w K mg base CX0 (3 + h) fo fdo ["body", "term"] (spOpened Ts h))
    (Cs : Cal K mg "shut" ["saying", "x", "kind"] fs fds) (hSh : ∀ h, FnOk P w K mg base CX0 (3 + h) fs fds ["saying", "x", "kind"] (spShut Ts h))
    (Cp : Cal K mg "put_in" ["saying", "x", "kind", "term"] fp fdp) (hPu : ∀ h, FnOk P w K mg base CX0 (3 + h) fp fdp ["saying", "x", "kind", "term"] (spPut Ts h)) (X : TxtL mg) (k : Nat) : FnOk P w K mg base CX0 (11 + k) f fd ["_law_body", "_law_kind", "_law_term_here", "_law_x"] (spRight Ts) := by
  rw [show 11 + k = (10 + k) + 1 by omega]
  refine F.ok scRi (fun vs H Q E h => ?_) (fun cdv A0 outer s H vs Q E hr hq => ?_)
  · obtain ⟨_, _, _, _, _, _, _, _, rfl, _⟩ := h
    rfl
  obtain ⟨vb, vt, kind, x, t, u, ns, ks, rfl, tA, tO, uA, uT, uO, nst, hkd, gk, gx, hT, kq⟩ := hq
  refine ⟨_, /-T-/(pss_cons (ps_set (i := 4) scRi.nd rfl (Or.inl rfl) (pe_call (hNm 5) (hr.mono (by omega)) rfl Cn.m Cn.kp Cn.b .nil pass0 (pa_cons (pv 0) (pa_cons (pe_lst (pa_cons pe_int pa_nil)) pa_nil))))
      (pss_cons (ps_set (i := 5) scRi.nd rfl (Or.inl rfl) (pe_call (hOp 5) (hr.mono (by omega)) rfl Co.m Co.kp Co.b .nil pass0 (pa_cons (pv 0) (pa_cons (pv 2) pa_nil))))
      (pss_cons (ps_if (pt_cmpR (op_neD (u64 hr)) (pv 5) (pe_call (hUn 7) (hr.mono (by omega)) rfl Cu.m Cu.kp Cu.b .nil pass0 (pa_cons (pe_call (hEx 5) (hr.mono (by omega)) rfl Ce.m Ce.kp Ce.b .nil pass0 (pa_cons (pv 4) (pa_cons (pe_tup (pa_cons pe_str (pa_cons pe_int pa_nil))) (pa_cons (pv 2) pa_nil)))) (pa_cons (pe_lst pa_nil) pa_nil))) (nomark _)) (pss_one
        (ps_ret pe_bl)) pss_nil)
      (pss_cons (ps_set (i := 4) scRi.nd rfl (Or.inl rfl) (pe_call (hNm 7) (hr.mono (by omega)) rfl Cn.m Cn.kp Cn.b .nil pass0 (pa_cons (pv 5) (pa_cons (pe_lst (pa_cons pe_int pa_nil)) pa_nil))))
      (pss_cons (ps_if (pt_cmpR (op_neD (u64 hr)) (pe_call (hSh 7) (hr.mono (by omega)) rfl Cs.m Cs.kp Cs.b .nil pass0 (pa_cons (pv 5) (pa_cons (pv 3) (pa_cons (pv 1) pa_nil)))) (pe_call (hUn 8) (hr.mono (by omega)) rfl Cu.m Cu.kp Cu.b .nil pass0 (pa_cons (pe_call (hEx 7) (hr.mono (by omega)) rfl Ce.m Ce.kp Ce.b .nil pass0 (pa_cons (pv 4) (pa_cons (pe_tup (pa_cons pe_str (pa_cons (pv 3) (pa_cons (pv 1) pa_nil)))) (pa_cons (pe_tup (pa_cons pe_str (pa_cons pe_int pa_nil))) pa_nil)))) (pa_cons (pe_lst (pa_cons pe_int pa_nil)) pa_nil))) (nomark _)) (pss_one
        (ps_ret pe_bl)) pss_nil)
      (pss_cons (ps_if (pt_cmpR (op_neD (u64 hr)) (pe_call (hPu 7) (hr.mono (by omega)) rfl Cp.m Cp.kp Cp.b .nil pass0 (pa_cons (pv 5) (pa_cons (pv 3) (pa_cons (pv 1) (pa_cons (pv 2) pa_nil))))) (pe_call (hUn 9) (hr.mono (by omega)) rfl Cu.m Cu.kp Cu.b .nil pass0 (pa_cons (pe_call (hEx 7) (hr.mono (by omega)) rfl Ce.m Ce.kp Ce.b .nil pass0 (pa_cons (pv 4) (pa_cons (pe_tup (pa_cons pe_str (pa_cons (pv 3) (pa_cons (pv 1) pa_nil)))) (pa_cons (pv 2) pa_nil)))) (pa_cons (pe_lst (pa_cons pe_int pa_nil)) pa_nil))) (nomark _)) (pss_one
        (ps_ret pe_bl)) pss_nil)
      (pss_one
        (ps_ret (pe_cmpR (op_eqD (u64 hr)) (pe_call (hSh 5) (hr.mono (by omega)) rfl Cs.m Cs.kp Cs.b .nil pass0 (pa_cons (pe_call (hOp 5) (hr.mono (by omega)) rfl Co.m Co.kp Co.b .nil pass0 (pa_cons (pv 0) (pa_cons (pe_tup (pa_cons pe_str (pa_cons pe_str (pa_cons (pv 1) pa_nil)))) pa_nil))) (pa_cons pe_str (pa_cons (pv 1) pa_nil)))) (pv 0) (nomark _))))))))))/-E-/, ?_⟩
/-B-/
  have z0 : (HO.lst [V.int 0]) = .lst (dnL 0 0) := rfl
  have znil : (HO.lst []) = .lst (dnL 1 0) := rfl
  -- called
  refine ⟨_, rfl, by show 1 ≤ sizeLine; decide, fun a1 ha1 => ?_⟩
  have s1 : Same H (upd H a1 (.lst [V.int 0])) := Same.upd ha1
  refine ⟨vb, t, a1, 0, rfl, tA.mono (.same s1), ⟨ns, ks, tO⟩, by rw [upd_same, z0], by omega, fun v1 H1 s1' cA => ?_⟩
  have e1 : ExtN H H1 := extN_same (s1.trans s1')
  have T1 : Tabs Ts H1 := tabs_same hT (s1.trans s1')
  have tA1 := tA.mono (extN_tup e1)
  have uA1 := uA.mono (extN_tup e1)
  clear s1 s1'
  -- opened
  refine ⟨_, rfl, _, rfl, vb, vt, t, u, rfl, tA1, ⟨ns, ks, 1, tO⟩, uA1, T1, fun v2 H2 e2 T2 oA => ?_⟩
  have oO : ok ns ks 7 0 (chg (gOpen u) 5 0 t) := ok_open uO (by decide) tO
  have oe : un 7 0 (ex (isV 0) u 5 (nm 5 0 t)) = chg (gOpen u) 5 0 t := open_eq uT tO
  generalize chg (gOpen u) 5 0 t = so at oA oO oe
  have e02 := e1.trans e2
  have cA2 := cA.mono (extN_tup e2)
  have tA2 := tA.mono (extN_tup e02)
  have uA2 := uA.mono (extN_tup e02)
  -- the first test
  refine ⟨_, rfl, _, rfl, by show 2 ≤ sizeLine; decide, fun a3 ha3 => ⟨_, rfl, ?_⟩⟩
  have s3 : Same H2 (upd H2 a3 (.tup [V.str "var", V.int 0])) := Same.upd ha3
  refine ⟨_, _, _, nm 5 0 t, .var 0, u, isV 0, 0, 0, rfl, cA2.mono (.same s3), okN_nm tO, .var (n := 0) upd_same, .inr ⟨rfl, rfl⟩, uA2.mono (.same s3), by decide, fun v3 H3 s3' xA => ?_⟩
  refine ⟨Nat.zero_le _, fun a4 ha4 => ?_⟩
  have s4 : Same H3 (upd H3 a4 (.lst [])) := Same.upd ha4
  refine ⟨v3, _, a4, 1, 0, rfl, xA.mono (.same s4), okN_exV uT (okN_nm tO), by rw [upd_same, znil], by decide, by decide, fun v5 H5 s5 yA => ?_⟩
  rw [oe] at yA
  have s25 : Same H2 H5 := ((s3.trans s3').trans s4).trans s5
  have hiO := hi_ok oO
  refine ⟨_, _, (oA.mono (.same s25)).dp hiO, yA.dp hiO, shaped_toD hiO (by decide), shaped_toD hiO (by decide), false, by rw [eqv_toD hiO]; rfl, iteF ?_⟩
  have e05 := e02.trans (extN_same s25)
  have T5 := tabs_same T2 s25
  have oA5 := oA.mono (.same s25)
  have tA5 := tA.mono (extN_tup e05)
  have uA5 := uA.mono (extN_tup e05)
  clear s3 s3' s4 s5 s25
  -- called, of the saying
  refine ⟨_, rfl, by show 1 ≤ sizeLine; decide, fun a6 ha6 => ?_⟩
  have s6 : Same H5 (upd H5 a6 (.lst [V.int 0])) := Same.upd ha6
  have oO1 : ok ns ks 7 1 so := ok_le oO (Nat.le_refl _) (by decide)
  refine ⟨v2, so, a6, 0, rfl, oA5.mono (.same s6), ⟨ns, ks, oO1⟩, by rw [upd_same, z0], by omega, fun v6 H6 s6' cA6 => ?_⟩
  have s56 := s6.trans s6'
  have e06 := e05.trans (extN_same s56)
  have T6 := tabs_same T5 s56
  have oA6 := oA5.mono (.same s56)
  have kN : okN 7 0 0 (nm 7 0 so) := okN_nm oO1
  -- shut
  refine ⟨_, rfl, _, rfl, _, rfl, v2, so, x, kind, rfl, oA6, ⟨ns, ks, 0, oO⟩, gx, gk, T6, fun v7 H7 e7 T7 hA => ?_⟩
  have cA7 := cA6.mono (extN_tup e7)
  refine ⟨_, rfl, _, rfl, _, rfl, by show 3 ≤ sizeLine; decide, fun a8 ha8 => ?_⟩
  have s8 : Same H7 (upd H7 a8 (.tup [V.str "name", V.str x, V.str kind])) := Same.upd ha8
  have h8 : upd H7 a8 (.tup [V.str "name", V.str x, V.str kind]) a8 = some (.tup [V.str "name", V.str x, V.str kind]) := upd_same
  generalize upd H7 a8 (.tup [V.str "name", V.str x, V.str kind]) = H8 at s8 h8 ⊢
  refine ⟨by show 2 ≤ sizeLine; decide, fun a9 ha9 => ?_⟩
  have s9 : Same H8 (upd H8 a9 (.tup [V.str "var", V.int 0])) := Same.upd ha9
  have s79 := s8.trans s9
  refine ⟨_, _, _, nm 7 0 so, .nam x kind, .var 0, isN x kind, 0, 0, rfl, cA7.mono (.same s79), kN, .nam (s9 _ _ h8), .inl ⟨x, kind, rfl, gx, gk, rfl⟩, .var (n := 0) upd_same, by decide, fun v10 H10 s10 xA => ?_⟩
  refine ⟨by show 1 ≤ sizeLine; decide, fun a11 ha11 => ?_⟩
  have s11 : Same H10 (upd H10 a11 (.lst [V.int 0])) := Same.upd ha11
  refine ⟨v10, _, a11, 0, 0, rfl, xA.mono (.same s11), okN_exN (c := 1) (lo := 0) (new := .var 0) (fun j => ⟨Nat.le_refl _, Nat.zero_le _⟩) (Nat.le_refl _) kN, by rw [upd_same, z0], by decide, by decide, fun v12 H12 s12 yA => ?_⟩
  rw [show un 8 0 (ex (isN x kind) (.var 0) 7 (nm 7 0 so)) = chg (gShut x kind) 7 0 so from shut_eq (c := 1) oO] at yA
  have s712 : Same H7 H12 := ((s79.trans s10).trans s11).trans s12
  have hiS : hi 7 (chg (gShut x kind) 7 0 so) := hi_chg (c := 0) (fun t d z => by
    cases t with
    | nam y j => show hi 1 (if y = x ∧ j = kind then T.bnd d else T.nam y j); split <;> first | trivial | exact z
    | _ => exact z) hiO
  refine ⟨_, _, (hA.mono (.same s712)).dp hiS, yA.dp hiS, shaped_toD hiS (by decide), shaped_toD hiS (by decide), false, by rw [eqv_toD hiS]; rfl, iteF ?_⟩
  have e012 := (e06.trans e7).trans (extN_same s712)
  have T12 := tabs_same T7 s712
  have oA12 := oA6.mono (extN_tup (e7.trans (extN_same s712)))
  have cA12 := cA7.mono (.same s712)
  have uA12 := uA.mono (extN_tup e012)
  have tA12 := tA.mono (extN_tup e012)
  clear s712 s11 s10 s79 s8 s9
  -- put in
  refine ⟨_, rfl, _, rfl, _, rfl, _, rfl, v2, vt, so, u, x, kind, rfl, oA12, ⟨ns, ks, 0, oO⟩, gx, gk, uA12, T12, fun v13 H13 e13 T13 pA => ?_⟩
  have cA13 := cA12.mono (extN_tup e13)
  have uA13 := uA12.mono (extN_tup e13)
  refine ⟨_, rfl, _, rfl, _, rfl, by show 3 ≤ sizeLine; decide, fun a14 ha14 => ⟨_, rfl, ?_⟩⟩
  have s14 : Same H13 (upd H13 a14 (.tup [V.str "name", V.str x, V.str kind])) := Same.upd ha14
  refine ⟨_, _, _, nm 7 0 so, .nam x kind, u, isN x kind, 0, 0, rfl, cA13.mono (.same s14), kN, .nam upd_same, .inl ⟨x, kind, rfl, gx, gk, rfl⟩, uA13.mono (.same s14), by decide, fun v15 H15 s15 xA => ?_⟩
  refine ⟨by show 1 ≤ sizeLine; decide, fun a16 ha16 => ?_⟩
  have s16 : Same H15 (upd H15 a16 (.lst [V.int 0])) := Same.upd ha16
  refine ⟨v15, _, a16, 0, 0, rfl, xA.mono (.same s16), okN_exN (c := 2) (fun j => okN_tm uT) (by decide) kN, by rw [upd_same, z0], by decide, by decide, fun v17 H17 s17 yA => ?_⟩
  rw [show un 9 0 (ex (isN x kind) u 7 (nm 7 0 so)) = chg (gPut x kind u) 7 0 so from put_eq (c := 2) uT oO] at yA
  have s1317 : Same H13 H17 := ((s14.trans s15).trans s16).trans s17
  have hiP : hi 8 (chg (gPut x kind u) 7 0 so) := hi_chg (c := 1) (fun t d z => by
    cases t with
    | nam y j =>
      show hi 2 (if y = x ∧ j = kind then u else T.nam y j)
      split
      · exact hi_ok uO
      · exact hi_le z (by decide)
    | _ => exact hi_le z (by decide)) hiO
  refine ⟨_, _, (pA.mono (.same s1317)).dp hiP, yA.dp hiP, shaped_toD hiP (by decide), shaped_toD hiP (by decide), false, by rw [eqv_toD hiP]; rfl, iteF ?_⟩
  have e017 := (e012.trans e13).trans (extN_same s1317)
  have T17 := tabs_same T13 s1317
  have tA17 := tA.mono (extN_tup e017)
  -- there and back
  refine ⟨_, rfl, _, rfl, by show 3 ≤ sizeLine; decide, fun a18 ha18 => ?_⟩
  have s18 : Same H17 (upd H17 a18 (.tup [V.str "name", V.str "strange", V.str kind])) := Same.upd ha18
  refine ⟨vb, .ref a18, t, .nam strange kind, rfl, tA17.mono (.same s18), ⟨ns, ks, 1, tO⟩, .nam upd_same, tabs_same T17 s18, fun v19 H19 e19 T19 gA => ?_⟩
  have tA19 := (tA17.mono (.same s18)).mono (extN_tup e19)
  refine ⟨_, rfl, v19, _, strange, kind, rfl, gA, ⟨strange :: ns, ks, 1, ok_open1 ⟨List.mem_cons_self, G_strange⟩ ⟨hkd, gk⟩ (fun y hy => List.mem_cons_of_mem _ hy) tO⟩, G_strange, gk, T19, fun v20 H20 e20 T20 bA => ?_⟩
  rw [there_back nst tO] at bA
  have hiT := hi_ok tO
  refine ⟨_, rfl, _, _, bA.dp hiT, (tA19.mono (extN_tup e20)).dp hiT, shaped_toD hiT (by decide), shaped_toD hiT (by decide), ?_⟩
  rw [eqv_toD hiT]
  exact kq _ (((e017.trans (extN_same s18)).trans e19).trans e20) T20
end
end KD

/-! KDk: law. -/
namespace KD
open PySem PySem.Spec PyProof.Rows L2 LamX NdefX LamF KM
theorem sqlS {K : PySem.W.Frag} {H H' : Hp} {a : Addr} {xs : List V} (h : SqL K H a xs) (e : Same H H') : SqL K H' a xs := h.elim (fun h => .inl (h.elim (fun h => .inl (e _ _ h)) fun ⟨o, h⟩ => .inr ⟨o, e _ _ h⟩)) fun h => .inr h
theorem extN_lst {H H' : Hp} (e : ExtN H H') {a : Addr} {xs : List V} (h : H a = some (.lst xs)) : H' a = some (.lst xs) := e _ _ h fun ps z => nomatch z
theorem extN_frz {H H' : Hp} (e : ExtN H H') {a : Addr} {o : Obj} {u : HO} (h : H a = some (.frz o u)) : H' a = some (.frz o u) := e _ _ h fun ps z => nomatch z
theorem fAt_extN {ks : List Str} {H H' : Hp} {q : L2.Key × V} (h : FAt [] ks H q) (e : ExtN H H') : FAt [] ks H' q := by
  obtain ⟨x, kd, a, tk, ts, e1, h1, h2, r⟩ := h
  exact ⟨x, kd, a, tk, ts, e1, ⟨extN_tup e _ _ h1.1, h1.2⟩, ⟨extN_lst e h2.1, h2.2⟩, r⟩
theorem tabs_lock {Ts : List (Addr × Str)} {H : Hp} {d : Addr} {od : Obj} {kvs : List (L2.Key × V)} (t : Tabs Ts H) (h : H d = some (.dK kvs)) : Tabs Ts (upd H d (.frz od (.dK kvs))) := fun p hp => by
  obtain ⟨ps, h1, h2, h3⟩ := t p hp
  refine ⟨ps, by rw [upd_ne (ne_of h1 h (by intro z; cases z))]; exact h1, h2, fun pos cv hc => ?_⟩
  obtain ⟨c, e1, e2⟩ := h3 pos cv hc
  exact ⟨c, e1, by rw [upd_ne (ne_of e2 h (by intro z; cases z))]; exact e2⟩
theorem keys_str {M : List Addr} {ks : List Str} {H : Hp} : ∀ {kvs : List (L2.Key × V)}, (∀ q ∈ kvs, FAt M ks H q) → ∃ fs : List Str, kvs.map (fun kv => kV kv.1) = fs.map V.str ∧ fs.length = kvs.length ∧ ∀ x ∈ fs, G x
  | [], _ => ⟨[], rfl, rfl, fun _ h => nomatch h⟩
  | q :: kvs, h => by
    obtain ⟨x, kd, a, tk, ts, e, _, _, g, _⟩ := h q List.mem_cons_self
    obtain ⟨fs, e1, e2, e3⟩ := keys_str (kvs := kvs) fun r hr => h r (List.mem_cons_of_mem _ hr)
    refine ⟨x :: fs, ?_, by rw [List.length_cons, List.length_cons, e2], fun y hy => ?_⟩
    · rw [List.map_cons, List.map_cons, e1, e]
      rfl
    · rcases List.mem_cons.mp hy with rfl | hy
      · exact g
      · exact e3 y hy
theorem mem_cut {xs : List V} {lo hi : Option Int} {v : V} (h : v ∈ cutV xs lo hi) : v ∈ xs := List.mem_of_mem_drop (List.mem_of_mem_take h)
/-- all pairs of names and kinds -/
def prd (ns ks : List Str) : List (Str × Str) := ns.flatMap fun x => ks.map fun k => (x, k)
theorem mem_prd {ns ks : List Str} {p : Str × Str} (h1 : p.1 ∈ ns) (h2 : p.2 ∈ ks) : p ∈ prd ns ks := List.mem_flatMap.mpr ⟨p.1, h1, List.mem_map.mpr ⟨p.2, h2, rfl⟩⟩
theorem len_prd (ks : List Str) : ∀ (ns : List Str), (prd ns ks).length = ns.length * ks.length
  | [] => by simp [prd]
  | x :: ns => by
    have := len_prd ks ns
    unfold prd at this ⊢
    rw [List.flatMap_cons, List.length_append, this, List.length_map, List.length_cons, Nat.succ_mul, Nat.add_comm]
theorem pick_at {K : PySem.W.Frag} {σ : L2.St} {H : Hp} {Qe : VK} {p q : Addr} {lv : List V} {i j : Nat} (h0 : σ[j]? = some (some (V.ref p))) (h1 : σ[i]? = some (some (V.ref q))) (hp : StA H p) (hq : H q = some (.lst lv)) (nq : q ≠ p) (l1 : 0 < lv.length) (l2 : lv.length ≤ 1000)
    (k : ∀ v H', v ∈ lv → ButS p H H' → StA H' p → Qe v H') : (tOp (rIxL K) (tVar i) (tCall spDraw [] E0 (tCons (tVar j) (tCons (tCB (rLenK K) (tCons (tVar i) tNil)) tNil)))) σ H Qe := by
  refine ⟨_, h1, _, h0, _, h1, _, _, rfl, .inl (SqL.of hq), p, lv.length, rfl, hp, l1, by omega, fun r H2 l b2 p2 => ?_⟩
  obtain ⟨v, hv⟩ : ∃ v, lv[r]? = some v := ⟨_, List.getElem?_eq_getElem l⟩
  exact ⟨_, _, _, _, rfl, rfl, SqL.of (b2 _ _ nq hq), atI_nat hv, k v H2 (List.mem_of_getElem? hv) b2 p2⟩
def spLaw (K : PySem.W.Frag) (Ts : List (Addr × Str)) : Sp := fun vs H Q _ => ∃ (a : Addr) (xs : List Int), vs = [.ref a] ∧ SqL K H a (xs.map V.int) ∧ xs.length ≤ 63 ∧ Tabs Ts H ∧ ∀ H', Q (.bl true) H'
abbrev nLa : List Str := ["_law_script", "_law_state_here", "_law_ground", "_law_makes_here", "_law_kind", "_law_kinds_here", "_law_words", "_law_before", "_law_cell", "_law_line", "_law_most", "_law_names", "_law_body", "_law_term_here", "_law_saying_here", "_law_word_here"]
theorem scLa : FnScope nLa ["_law_script"] (defScope (top 29)) := ⟨rfl, rfl, rfl, by decide +kernel, rfl, by decide +kernel, by decide +kernel⟩
section
variable {P : Program} {w : World} {K : PySem.W.Frag} {mg : Str → Option Value} {base : Heap} {f f1 f2 f3 f4 f5 f6 f7 f8 f9 fa fb : Addr} {fd d1 d2 d3 d4 d5 d6 d7 d8 d9 da db : FuncData} {Ts : List (Addr × Str)}
theorem ok_law (F : Fun K "law" "law" (top 29) f fd) (X : TxtL mg)
    (C1 : Cal K mg "_law_seed" ["_law_script", "_law_k"] f1 d1) (h1 : ∀ k, FnOk P w K mg base CX0 (1 + k) f1 d1 ["_law_script", "_law_k"] (spSeed K))
    (C2 : Cal K mg "_law_state" ["_law_cell"] f2 d2) (h2 : ∀ k, FnOk P w K mg base CX0 (1 + k) f2 d2 ["_law_cell"] spState)
    (C3 : Cal K mg "_law_drawn_ground" ["_law_state_here"] f3 d3) (h3 : ∀ k, FnOk P w K mg base CX0 (4 + k) f3 d3 ["_law_state_here"] spGround)
    (C4 : Cal K mg "_law_makes" ["_law_kinds_here", "_law_works_here"] f4 d4) (h4 : ∀ k, FnOk P w K mg base CX0 (1 + k) f4 d4 ["_law_kinds_here", "_law_works_here"] spMakes)
    (C5 : Cal K mg "_law_draw" ["_law_state_here", "_law_many"] f5 d5) (h5 : ∀ k, FnOk P w K mg base CX0 (1 + k) f5 d5 ["_law_state_here", "_law_many"] spDraw)
    (C6 : Cal K mg "_law_saying" pSa f6 d6) (h6 : ∀ h, FnOk P w K mg base CX0 (5 + h) f6 d6 pSa (spSay h))
    (C7 : Cal K mg "_law_term" pTe f7 d7) (h7 : ∀ h, FnOk P w K mg base CX0 (2 + h) f7 d7 pTe (spTerm h))
    (C8 : Cal K mg "_law_right" ["_law_body", "_law_kind", "_law_term_here", "_law_x"] f8 d8) (h8 : ∀ k, FnOk P w K mg base CX0 (11 + k) f8 d8 ["_law_body", "_law_kind", "_law_term_here", "_law_x"] (spRight Ts))
    (C9 : Cal K mg "opened" ["body", "term"] f9 d9) (h9 : ∀ h, FnOk P w K mg base CX0 (3 + h) f9 d9 ["body", "term"] (spOpened Ts h))
    (Ca : Cal K mg "_law_free_right" ["_law_sayings"] fa da) (ha : ∀ h, h ≤ 12 → FnOk P w K mg base CX0 (4 + h) fa da ["_law_sayings"] (spLFR h))
    (Cb : Cal K mg "free_in" ["sayings"] fb db) (hb : ∀ h, FnOk P w K mg base CX0 (3 + h) fb db ["sayings"] (spFreeIn h)) (k : Nat) : FnOk P w K mg base CX0 (12 + k) f fd ["_law_script"] (spLaw K Ts) := by
  rw [show 12 + k = (11 + k) + 1 by omega]
  refine F.ok scLa (fun vs H Q E h => ?_) (fun cdv A0 outer s H vs Q E hr hq => ?_)
  · obtain ⟨_, _, rfl, _⟩ := h
    rfl
  obtain ⟨a, xs, rfl, hx, lx, hT, kq⟩ := hq
  refine ⟨_, /-T-/(pss_cons (ps_set (i := 1) scLa.nd rfl (Or.inl rfl) (pe_call (h2 0) (hr.mono (by omega)) rfl C2.m C2.kp C2.b .nil pass0 (pa_cons (pe_call (h1 0) (hr.mono (by omega)) rfl C1.m C1.kp C1.b .nil pass0 (pa_cons (pv 0) (pa_cons pe_int pa_nil))) pa_nil)))
      (pss_cons (ps_set (i := 2) scLa.nd rfl (Or.inl rfl) (pe_call (h3 0) (hr.mono (by omega)) rfl C3.m C3.kp C3.b .nil pass0 (pa_cons (pv 1) pa_nil)))
      (pss_cons (ps_set (i := 3) scLa.nd rfl (Or.inl rfl) (pe_call (h4 0) (hr.mono (by omega)) rfl C4.m C4.kp C4.b .nil pass0 (pa_cons (pe_ix ix_tup (pv 2) pe_int (fun _ _ => rfl)) (pa_cons (pe_ix ix_tup (pv 2) pe_int (fun _ _ => rfl)) pa_nil))))
      (pss_cons (ps_setLc (i := 5) (own := [("_law_kind", 4)]) (g := gName 4) (tt := tYes) (te := tOp (rIxT K) (tVar 4) (tC (V.int 0))) rfl scLa.nd rfl rfl rfl (pi_list (pe_ix ix_tup (pv 2) pe_int (fun _ _ => rfl))) (blkOk_by (N := nLa) (sc := defScope (top 29)) (by decide +kernel)) (fun _ _ _ _ _ => pg_name (i := 4) scLa.nd rfl (Or.inl rfl)) (fun _ _ _ _ _ => pts_nil) (fun _ _ _ _ _ => (pe_ix ix_tup (pv 4) pe_int (fun _ _ => rfl))))
      (pss_cons (ps_set (i := 6) scLa.nd rfl (Or.inl rfl) (pe_op op_cat (pe_lst (pa_cons pe_str pa_nil)) (pe_lc (own := [("_law_word_here", 15)]) (g := gName 15) (tt := tTest (tOp rNe (tVar 15) (tC (V.str "strange")))) rfl scLa.nd (pi_list (pe_op op_cat (pv 5) (pe_callTy (call_listD rfl) (by rfl) X.list boot_listT (pa_cons (pv 3) pa_nil)))) (blkOk_by (N := nLa) (sc := defScope (top 29)) (by decide +kernel)) (fun _ _ _ _ _ => pg_name (i := 15) scLa.nd rfl (Or.inl rfl)) (fun _ _ _ _ _ => pts_one (pt_cmpR op_ne (pv 15) pe_str (nomark _))) (fun _ _ _ _ _ => pv 15))))
      (pss_cons (ps_set (i := 7) scLa.nd rfl (Or.inl rfl) (pe_tup (pa_cons pe_str pa_nil)))
      (pss_cons (ps_lock (ps_for PassesOwn.never rfl (pi_list (pe_op op_cat (pe_lst (pa_cons pe_int (pa_cons pe_int pa_nil))) (pe_slice sl_list (pv 0) (po_some pe_int) (po_some pe_int)))) (pg_name (i := 8) scLa.nd rfl (Or.inl rfl)) (pss_cons (ps_set (i := 9) scLa.nd rfl (Or.inl rfl) (pe_call (h2 0) (hr.mono (by omega)) rfl C2.m C2.kp C2.b .nil pass0 (pa_cons (pv 8) pa_nil)))
      (pss_cons (ps_set (i := 4) scLa.nd rfl (Or.inl rfl) (pe_ix ix_list (pv 5) (pe_call (h5 0) (hr.mono (by omega)) rfl C5.m C5.kp C5.b .nil pass0 (pa_cons (pv 9) (pa_cons (pe_callB call_len_seq (by rfl) X.len PySem.boot_len (pa_cons (pv 5) pa_nil)) pa_nil))) (fun _ _ => rfl)))
      (pss_cons (ps_set (i := 10) scLa.nd rfl (Or.inl rfl) (pe_op op_add pe_int (pe_call (h5 0) (hr.mono (by omega)) rfl C5.m C5.kp C5.b .nil pass0 (pa_cons (pv 9) (pa_cons pe_int pa_nil)))))
      (pss_cons (ps_set (i := 11) scLa.nd rfl (Or.inl rfl) (pe_lst (pa_cons pe_str (pa_cons pe_str (pa_cons (pe_ix ix_list (pv 6) (pe_call (h5 0) (hr.mono (by omega)) rfl C5.m C5.kp C5.b .nil pass0 (pa_cons (pv 9) (pa_cons (pe_callB call_len_seq (by rfl) X.len PySem.boot_len (pa_cons (pv 6) pa_nil)) pa_nil))) (fun _ _ => rfl)) pa_nil)))))
      (pss_cons (ps_set (i := 12) scLa.nd rfl (Or.inl rfl) (pe_call (h6 3) (hr.mono (by omega)) rfl C6.m C6.kp C6.b .nil pass0 (pa_cons (pv 9) (pa_cons (pv 3) (pa_cons (pv 5) (pa_cons (pv 11) (pa_cons (pe_lst (pa_cons (pv 4) pa_nil)) (pa_cons (pe_op op_sub pe_int (pv 10)) (pa_cons (pv 10) pa_nil)))))))))
      (pss_cons (ps_set (i := 13) scLa.nd rfl (Or.inl rfl) (pe_call (h7 3) (hr.mono (by omega)) rfl C7.m C7.kp C7.b .nil pass0 (pa_cons (pv 9) (pa_cons (pv 3) (pa_cons (pv 4) (pa_cons (pv 11) (pa_cons (pe_lst pa_nil) (pa_cons (pe_call (h5 0) (hr.mono (by omega)) rfl C5.m C5.kp C5.b .nil pass0 (pa_cons (pv 9) (pa_cons pe_int pa_nil))) pa_nil))))))))
      (pss_cons (ps_if (pt_not (pt_val (pe_call (h8 k) (hr.mono (by omega)) rfl C8.m C8.kp C8.b .nil pass0 (pa_cons (pv 12) (pa_cons (pv 4) (pa_cons (pv 13) (pa_cons (pe_ix ix_list (pv 11) (pe_call (h5 0) (hr.mono (by omega)) rfl C5.m C5.kp C5.b .nil pass0 (pa_cons (pv 9) (pa_cons pe_int pa_nil))) (fun _ _ => rfl)) pa_nil))))))) (pss_one
        (ps_ret pe_bl)) pss_nil)
      (pss_cons (ps_set (i := 14) scLa.nd rfl (Or.inl rfl) (pe_call (h9 5) (hr.mono (by omega)) rfl C9.m C9.kp C9.b .nil pass0 (pa_cons (pv 12) (pa_cons (pv 13) pa_nil))))
      (pss_cons (ps_if (PW.pt (pw_or (pt_not (pt_val (pe_call (ha 7 (by decide)) (hr.mono (by omega)) rfl Ca.m Ca.kp Ca.b .nil pass0 (pa_cons (pe_lst (pa_cons (pv 14) pa_nil)) pa_nil)))) (pw_or (pt_not (pt_val (pe_call (ha 7 (by decide)) (hr.mono (by omega)) rfl Ca.m Ca.kp Ca.b .nil pass0 (pa_cons (pe_lst (pa_cons (pv 7) (pa_cons (pv 14) (pa_cons (pv 7) pa_nil)))) pa_nil)))) (pw_or1 (pt_cmpR (op_neD (u64 hr)) (pe_call (hb 7) (hr.mono (by omega)) rfl Cb.m Cb.kp Cb.b .nil pass0 (pa_cons (pe_lst pa_nil) pa_nil)) (pe_lst pa_nil) (nomark _)))))) (pss_one
        (ps_ret pe_bl)) pss_nil)
      (pss_one
        (ps_set (i := 7) scLa.nd rfl (Or.inl rfl) (pv 14))))))))))))))
      (pss_one
        (ps_ret pe_bl)))))))))/-E-/, ?_⟩
/-B-/
  -- the seed, the state, the ground
  refine ⟨_, rfl, a, xs, rfl, hx, fun i0 => ⟨i0, rfl, fun p0 H1 hp0 s1 pA => ?_⟩⟩
  refine ⟨_, rfl, p0, rfl, pA, fun g kk wk H2 ks us ws b2 hg hkk hwk lu l1 l4 lw gk uk aw => ?_⟩
  have s2 : Same H H2 := fun x o e => b2 x o (ne_of_none e hp0) (s1 _ _ e)
  refine ⟨_, rfl, _, _, _, _, rfl, rfl, SqT.of hg, atI_nat (j := 0) rfl, _, rfl, _, _, _, _, rfl, rfl, SqT.of hg, atI_nat (j := 1) rfl, kk, wk, ks, us, ws, rfl, hkk, hwk, by omega, lw, uk, aw, fun d H3 kvs s3 hd hd3 lk fk => ?_⟩
  have s03 := s2.trans s3
  have fk0 : ∀ q ∈ kvs, FAt [] ks H3 q := fun q hq => (fk q hq).drop (by simp)
  -- the kinds
  refine ⟨_, rfl, _, _, _, _, rfl, rfl, SqT.of (s3 _ _ hg), atI_nat (j := 0) rfl, kk, rfl, ⟨_, SqL.of (s3 _ _ hkk)⟩, fun D hD => lc_list (xs := us) (fun i H' => Same H3 H' ∧ ∃ kn : List Str, H' D = some (.lst (kn.map V.str)) ∧ kn.length = i ∧ ∀ x ∈ kn, x ∈ ks)
    ⟨Same.upd hD, [], upd_same, rfl, (fun v hv => nomatch hv)⟩ (fun i H' _ q => SqL.of (q.1 _ _ (s3 _ _ hkk))) (fun i v H' hv q => ?_) (fun H4 q => ?_)⟩
  · obtain ⟨s4, kn, h4', lkn, mkn⟩ := q
    have i4 : i < us.length := (List.getElem?_eq_some_iff.mp hv).1
    obtain ⟨b, mk, n, ms, rfl, hb', _, hn, _⟩ := (uk v (List.mem_of_getElem? hv)).mono (.same (s3.trans s4))
    refine ⟨rfl, ?_⟩
    unfold tYes
    simp only [if_true]
    refine ⟨_, rfl, _, _, _, _, rfl, rfl, SqT.of hb'.1, atI_nat (j := 0) rfl, _, h4', ?_, fun x u hx => ?_, kn ++ [n], by rw [upd_same, List.map_append] <;> rfl, by rw [List.length_append, lkn] <;> rfl, fun x hx => ?_⟩
    · rw [List.length_map]
      exact Nat.lt_of_le_of_lt (show kn.length ≤ 1000 by omega) (by decide)
    · rw [upd_ne (ne_of_none hx hD)]
      exact s4 _ _ hx
    · rcases List.mem_append.mp hx with h | h
      · exact mkn x h
      · rw [List.mem_singleton.mp h]
        exact hn
  obtain ⟨s4, kn, h4', lkn, mkn⟩ := q
  have kn0 : 0 < kn.length ∧ kn.length ≤ 4 := by omega
  have s04 := s03.trans s4
  have hd4 := s4 _ _ hd3
  have fk4 : ∀ q ∈ kvs, FAt [] ks H4 q := fun q hq => (fk0 q hq).mono (.same s4)
  -- the words
  refine ⟨by show 1 ≤ sizeLine; decide, fun z1 hz1 => ?_⟩
  have s5 : Same H4 (upd H4 z1 (.lst [V.str "zzz"])) := Same.upd hz1
  have hz5 : upd H4 z1 (.lst [V.str "zzz"]) z1 = some (.lst [V.str "zzz"]) := upd_same
  generalize upd H4 z1 (.lst [V.str "zzz"]) = H5 at s5 hz5 ⊢
  obtain ⟨fs, efs, lfs, gfs⟩ := keys_str fk4
  refine ⟨_, rfl, _, rfl, d, kvs, rfl, .of (s5 _ _ hd4), fun z2 hz2 => ?_⟩
  rw [efs]
  have s6 : Same H5 (upd H5 z2 (.lst (fs.map V.str))) := Same.upd hz2
  have hz6 : upd H5 z2 (.lst (fs.map V.str)) z2 = some (.lst (fs.map V.str)) := upd_same
  generalize upd H5 z2 (.lst (fs.map V.str)) = H6 at s6 hz6 ⊢
  refine ⟨_, _, _, _, rfl, rfl, s6 _ _ (s5 _ _ h4'), hz6, ?_, fun z3 hz3 => ?_⟩
  · rw [List.length_map, List.length_map]
    exact Nat.le_trans (show kn.length + fs.length ≤ 1000 by omega) (by decide)
  have s7 : Same H6 (upd H6 z3 (.lst (kn.map V.str ++ fs.map V.str))) := Same.upd hz3
  have hz7 : upd H6 z3 (.lst (kn.map V.str ++ fs.map V.str)) z3 = some (.lst ((kn ++ fs).map V.str)) := by rw [upd_same, List.map_append]
  generalize upd H6 z3 (.lst (kn.map V.str ++ fs.map V.str)) = H7 at s7 hz7 ⊢
  refine ⟨z3, rfl, ⟨_, SqL.of hz7⟩, fun D2 hD2 => lc_list (xs := (kn ++ fs).map V.str) (fun i H' => Same H7 H' ∧ ∃ wl : List Str, H' D2 = some (.lst (wl.map V.str)) ∧ wl.length ≤ i ∧ ∀ x ∈ wl, G x ∧ x ≠ strange)
    ⟨Same.upd hD2, [], upd_same, Nat.le_refl _, (fun v hv => nomatch hv)⟩ (fun i H' _ q => SqL.of (q.1 _ _ hz7)) (fun i v H' hv q => ?_) (fun H8 q => ?_)⟩
  · obtain ⟨s8, wl, h8', lwl, mwl⟩ := q
    have i4 : i < (kn ++ fs).length := by
      have := (List.getElem?_eq_some_iff.mp hv).1
      rwa [List.length_map] at this
    rw [List.length_append] at i4
    obtain ⟨x, hx', rfl⟩ := List.mem_map.mp (List.mem_of_getElem? hv)
    have gx : G x := (List.mem_append.mp hx').elim (fun h => gk x (mkn x h)) (gfs x)
    refine ⟨rfl, _, rfl, rfl, _, rfl, ite2 (fun e => ?_) (fun e => ?_)⟩
    · refine ⟨_, rfl, _, h8', ?_, fun y u hy => ?_, wl ++ [x], by rw [upd_same, List.map_append] <;> rfl, by rw [List.length_append]; exact Nat.succ_le_succ lwl, fun y hy => ?_⟩
      · rw [List.length_map]
        exact Nat.lt_of_le_of_lt (show wl.length ≤ 1000 by omega) (by decide)
      · rw [upd_ne (ne_of_none hy hD2)]
        exact s8 _ _ hy
      · rcases List.mem_append.mp hy with h | h
        · exact mwl y h
        · rw [List.mem_singleton.mp h]
          refine ⟨gx, fun z => ?_⟩
          rw [z] at e
          exact absurd e (by decide +kernel)
    · exact ⟨s8, wl, h8', Nat.le_succ_of_le lwl, mwl⟩
  obtain ⟨s8, wl, h8', lwl, mwl⟩ := q
  rw [List.length_map, List.length_append] at lwl
  have s58 := (s6.trans s7).trans s8
  refine ⟨z1, D2, _, _, rfl, rfl, s58 _ _ hz5, h8', ?_, fun wd hwd => ?_⟩
  · rw [List.length_map]
    exact Nat.le_trans (show 1 + wl.length ≤ 1000 by omega) (by decide)
  have s9 : Same H8 (upd H8 wd (.lst ([V.str "zzz"] ++ wl.map V.str))) := Same.upd hwd
  have hw9 : upd H8 wd (.lst ([V.str "zzz"] ++ wl.map V.str)) wd = some (.lst ((("zzz" : Str) :: wl).map V.str)) := upd_same
  have mw9 : ∀ x ∈ ("zzz" : Str) :: wl, G x ∧ x ≠ strange := fun x hx => by
    rcases List.mem_cons.mp hx with rfl | hx
    · exact ⟨by unfold G; decide +kernel, by decide +kernel⟩
    · exact mwl x hx
  have lw9 : (("zzz" : Str) :: wl).length ≤ 1000 := by rw [List.length_cons]; omega
  have lw0 : 0 < (("zzz" : Str) :: wl).length := by simp
  generalize upd H8 wd (.lst ([V.str "zzz"] ++ wl.map V.str)) = H9 at s9 hw9 ⊢
  generalize ("zzz" : Str) :: wl = wrd at hw9 mw9 lw9 lw0
  -- before
  refine ⟨by show 1 ≤ sizeLine; decide, fun bf hbf => ?_⟩
  have s10 : Same H9 (upd H9 bf (.tup [V.str "no"])) := Same.upd hbf
  have bA : At (upd H9 bf (.tup [V.str "no"])) (.ref bf) (.nod .no []) := .nod (w := .no) (vs := []) upd_same .nil
  generalize upd H9 bf (.tup [V.str "no"]) = H10 at s10 bA ⊢
  have s410 := (s5.trans s58).trans (s9.trans s10)
  have s010 := s04.trans s410
  have hd10 := s410 _ _ hd4
  have T10 := tabs_same hT s010
  refine ⟨d, .dK kvs, hd10, trivial, fun od => ?_⟩
  have neL : ∀ {y : Addr} {o : HO}, H10 y = some o → (∀ kv, o ≠ .dK kv) → y ≠ d := fun {y o} e n => ne_of e hd10 (fun z => n _ z)
  have T11 : Tabs Ts (upd H10 d (.frz od (.dK kvs))) := tabs_lock T10 hd10
  have hd11 : upd H10 d (.frz od (.dK kvs)) d = some (.frz od (.dK kvs)) := upd_same
  have kl11 : upd H10 d (.frz od (.dK kvs)) D = some (.lst (kn.map V.str)) := by rw [upd_ne (neL (s410 _ _ h4') (fun kv z => nomatch z))]; exact s410 _ _ h4'
  have wd11 : upd H10 d (.frz od (.dK kvs)) wd = some (.lst (wrd.map V.str)) := by rw [upd_ne (neL (s10 _ _ hw9) (fun kv z => nomatch z))]; exact s10 _ _ hw9
  have bA11 : At (upd H10 d (.frz od (.dK kvs))) (.ref bf) (.nod .no []) := bA.mono fun y ys e => by rw [upd_ne (neL e (fun kv z => nomatch z))]; exact e
  have fk11 : ∀ q ∈ kvs, FAt [] ks (upd H10 d (.frz od (.dK kvs))) q := fun q hq => (((fk q hq).mono (.same (s4.trans s410))).mono (.upd (by simp))).drop (by simp)
  have hx11 : SqL K (upd H10 d (.frz od (.dK kvs))) a (xs.map V.int) := by
    have h10 := sqlS hx s010
    rcases h10 with h10 | h10
    · left
      rcases h10 with h10 | ⟨o, h10⟩
      · exact .inl (by rw [upd_ne (neL h10 (fun kv z => nomatch z))]; exact h10)
      · exact .inr ⟨o, by rw [upd_ne (neL h10 (fun kv z => nomatch z))]; exact h10⟩
    · exact .inr h10
  generalize upd H10 d (.frz od (.dK kvs)) = HL at T11 hd11 kl11 wd11 bA11 fk11 hx11 ⊢
  -- the cells
  refine ⟨by show 2 ≤ sizeLine; decide, fun z4 hz4 => ?_⟩
  have t4 : Same HL (upd HL z4 (.lst [V.int 5, V.int 8])) := Same.upd hz4
  have hz4' : upd HL z4 (.lst [V.int 5, V.int 8]) z4 = some (.lst [V.int 5, V.int 8]) := upd_same
  generalize upd HL z4 (.lst [V.int 5, V.int 8]) = HM at t4 hz4' ⊢
  refine ⟨_, rfl, 1, rfl, 40, rfl, a, xs.map V.int, rfl, sqlS hx11 t4, fun z5 hz5 => ?_⟩
  have hcl : ∀ v ∈ cutV (xs.map V.int) (some 1) (some 40), ∃ i, v = V.int i := fun v hv => by
    obtain ⟨i, _, e⟩ := List.mem_map.mp (mem_cut hv)
    exact ⟨i, e.symm⟩
  have lcl : (cutV (xs.map V.int) (some 1) (some 40)).length ≤ 63 := Nat.le_trans (cutV_length _ _ _) (by rw [List.length_map]; exact lx)
  generalize cutV (xs.map V.int) (some 1) (some 40) = cl at hcl lcl ⊢
  have t5 : Same HM (upd HM z5 (.lst cl)) := Same.upd hz5
  refine ⟨z4, z5, _, _, rfl, rfl, t5 _ _ hz4', upd_same, ?_, fun z6 hz6 => ?_⟩
  · exact Nat.le_trans (show 2 + cl.length ≤ 1000 by omega) (by decide)
  have t6 : Same HL (upd (upd HM z5 (.lst cl)) z6 (.lst ([V.int 5, V.int 8] ++ cl))) := (t4.trans t5).trans (Same.upd hz6)
  have hz6' : upd (upd HM z5 (.lst cl)) z6 (.lst ([V.int 5, V.int 8] ++ cl)) z6 = some (.lst ([V.int 5, V.int 8] ++ cl)) := upd_same
  have hcl2 : ∀ v ∈ [V.int 5, V.int 8] ++ cl, ∃ i, v = V.int i := fun v hv => by
    rcases List.mem_append.mp hv with h | h
    · rcases List.mem_cons.mp h with rfl | h
      · exact ⟨_, rfl⟩
      · exact ⟨8, List.mem_singleton.mp h⟩
    · exact hcl v h
  generalize upd (upd HM z5 (.lst cl)) z6 (.lst ([V.int 5, V.int 8] ++ cl)) = HF at t6 hz6' ⊢
  generalize [V.int 5, V.int 8] ++ cl = cls at hz6' hcl2 ⊢
  refine ⟨z6, rfl, ⟨_, SqL.of hz6'⟩, for_list (xs := cls) (fun i σ' H' => ∃ (vb : V) (tb : T) (nb : List Str) (o4 o8 o9 o10 o11 o12 o13 o14 : Option V), σ' = [some (V.ref a), some (V.ref p0), some (V.ref g), some (V.ref d), o4, some (V.ref D), some (V.ref wd), some vb, o8, o9, o10, o11, o12, o13, o14, none] ∧ ExtN HF H' ∧ Tabs Ts H' ∧ At H' vb tb ∧
      nb.length ≤ 3 ∧ ok nb ks 7 0 tb ∧ nz 7 tb)
    ⟨_, .nod .no [], [], _, _, _, _, _, _, _, _, rfl, .refl HF, tabs_same T11 t6, bA11.mono (.same t6), by decide, ⟨by decide, fun q hq => nomatch hq⟩, ⟨fun _ => rfl, fun q hq => nomatch hq⟩⟩ (fun i σ' H' _ q => ?_) (fun i v σ' HA hv q => ?_) (fun σ' H' q => ?_)⟩
  · obtain ⟨_, _, _, _, _, _, _, _, _, _, _, _, e, _⟩ := q
    exact SqL.of (extN_lst e hz6')
  · obtain ⟨vb, tb, nb, o4, o8, o9, o10, o11, o12, o13, o14, rfl, eA, TA, bA', lnb, bO, bZ⟩ := q
    obtain ⟨i0, rfl⟩ := hcl2 v (List.mem_of_getElem? hv)
    have hdA := extN_frz eA (t6 _ _ hd11)
    have klA := extN_lst eA (t6 _ _ kl11)
    have wdA := extN_lst eA (t6 _ _ wd11)
    have fkA : ∀ q ∈ kvs, FAt [] ks HA q := fun q hq => fAt_extN ((fk11 q hq).mono (.same t6)) eA
    -- the line
    refine ⟨_, rfl, i0, rfl, fun p HB hp sB pB => ?_⟩
    have nDp : D ≠ p := ne_of_none klA hp
    have nwp : wd ≠ p := ne_of_none wdA hp
    have ndp : d ≠ p := ne_of_none hdA hp
    have fkB : ∀ q ∈ kvs, FAt [p] ks HB q := fun q hq => ((fkA q hq).fresh hp).mono (.same sB)
    refine pick_at rfl rfl pB (sB _ _ klA) nDp (by rw [List.length_map]; exact kn0.1) (by rw [List.length_map]; omega) fun v HC hv bC pC => ?_
    obtain ⟨kind, hkn, rfl⟩ := List.mem_map.mp hv
    have hkd := mkn kind hkn
    refine ⟨_, rfl, p, 2, rfl, pC, by decide, by decide, fun r HD lr bD pD => ⟨_, _, rfl, rfl, ?_⟩⟩
    have bBD := bC.trans bD
    refine pick_at rfl rfl pD (bBD _ _ nwp (sB _ _ wdA)) nwp (by rw [List.length_map]; exact lw0) (by rw [List.length_map]; exact lw9) fun v HE hv bE pE => ⟨by show 3 ≤ sizeLine; decide, fun nl hnl => ?_⟩
    obtain ⟨wv, hwv, rfl⟩ := List.mem_map.mp hv
    obtain ⟨gwv, nwv⟩ := mw9 wv hwv
    have nlp := pE.not hnl
    have sF : Same HE (upd HE nl (.lst [V.str "x", V.str "yy", V.str wv])) := Same.upd hnl
    have hnl' : upd HE nl (.lst [V.str "x", V.str "yy", V.str wv]) nl = some (.lst ([("x" : Str), "yy", wv].map V.str)) := upd_same
    generalize upd HE nl (.lst [V.str "x", V.str "yy", V.str wv]) = HF' at sF hnl' ⊢
    have pF := pE.same sF
    have bBF : ButS p HB HF' := (bBD.trans bE).same sF
    have gns : ∀ y ∈ [("x" : Str), "yy", wv], G y := fun y hy => by
      rcases List.mem_cons.mp hy with rfl | hy
      · exact gX
      · rcases List.mem_cons.mp hy with rfl | hy
        · unfold G; decide +kernel
        · rw [List.mem_singleton.mp hy]; exact gwv
    have nst : strange ∉ [("x" : Str), "yy", wv] := fun hy => by
      rcases List.mem_cons.mp hy with e | hy
      · exact absurd e (by decide +kernel)
      · rcases List.mem_cons.mp hy with e | hy
        · exact absurd e (by decide +kernel)
        · exact nwv (List.mem_singleton.mp hy).symm
    have lns : ([("x" : Str), "yy", wv]).length = 3 := rfl
    generalize [("x" : Str), "yy", wv] = ns at hnl' gns nst lns
    have bHF : ∀ {y : Addr} {o : HO}, y ≠ p → HA y = some o → HF' y = some o := fun {y o} n e => bBF _ _ n (sB _ _ e)
    -- the body
    refine ⟨_, rfl, _, rfl, _, rfl, _, rfl, _, rfl, by show 1 ≤ sizeLine; decide, fun ar har => ⟨_, rfl, _, _, rfl, rfl, _, rfl, ?_⟩⟩
    have nap := pF.not har
    have sG : Same HF' (upd HF' ar (.lst [V.str kind])) := Same.upd har
    have har' : upd HF' ar (.lst [V.str kind]) ar = some (.lst ([kind].map V.str)) := upd_same
    generalize upd HF' ar (.lst [V.str kind]) = HG at sG har' ⊢
    have pG := pF.same sG
    have bBG : ButS p HB HG := bBF.same sG
    refine ⟨p, d, D, nl, ar, od, 2 - r, 1 + r, kvs, ns, ks, kn, [kind], ?_, by omega, by omega, pG, bBG _ _ ndp (sB _ _ hdA), lk, fun q hq => (fkB q hq).mono (.but bBG (by simp)), ⟨bBG _ _ nDp (sB _ _ klA), by simp [nDp]⟩, kn0.1, kn0.2, mkn, ⟨sG _ _ hnl', by simp [nlp]⟩, by omega, by omega, gns, ⟨har', by simp [nap]⟩, by show 1 + (2 - r) ≤ 4; omega, gk, fun v12 t H1' b1 p1 tA tS => ?_⟩
    · show [V.ref p, V.ref d, V.ref D, V.ref nl, V.ref ar, V.int ((3 : Int) - ((1 : Int) + (r : Int))), V.int ((1 : Int) + (r : Int))] = _
      rw [show (3 : Int) - ((1 : Int) + (r : Int)) = ((2 - r : Nat) : Int) by omega, show (1 : Int) + (r : Int) = ((1 + r : Nat) : Int) by omega]
    have tO : ok ns ks 5 1 t := ok_le tS.1 (by omega) (Nat.le_refl _)
    have tZ : nz 5 t := nz_le tS.2 (by omega)
    have bB1 := bBG.trans b1
    have nl1 := b1 _ _ nlp (sG _ _ hnl')
    -- the term
    refine ⟨_, rfl, _, rfl, _, rfl, _, rfl, Nat.zero_le _, fun ar2 har2 => ?_⟩
    have nap2 := p1.not har2
    have sI : Same H1' (upd H1' ar2 (.lst [])) := Same.upd har2
    have har2' : upd H1' ar2 (.lst []) ar2 = some (.lst (([] : List Str).map V.str)) := upd_same
    generalize upd H1' ar2 (.lst []) = H2' at sI har2' ⊢
    refine ⟨_, rfl, p, 2, rfl, p1.same sI, by decide, by decide, fun r2 H3' lr2 b3 p3 => ?_⟩
    have bB3 : ButS p HB H3' := (bB1.same sI).trans b3
    refine ⟨p, d, nl, ar2, od, kind, r2, kvs, ns, ks, [], rfl, by omega, p3, bB3 _ _ ndp (sB _ _ hdA), lk, fun q hq => (fkB q hq).mono (.but bB3 (by simp)), ⟨b3 _ _ nlp (sI _ _ nl1), by simp [nlp]⟩, by omega, by omega, gns, ⟨b3 _ _ nap2 har2', by simp [nap2]⟩, by decide, hkd, gk, fun v13 u H4' b4 p4 uA uL => ?_⟩
    have uO : ok ns ks 2 0 u := ok_le uL.1 (by omega) (Nat.le_refl _)
    have uZ : nz 2 u := nz_le uL.2.1 (by omega)
    have uT : tm 2 u := tm_le (uL.2.2 rfl) (by omega)
    have b14 : ButS p H1' H4' := (((Same.but sI) : ButS p H1' H2').trans b3).trans b4
    have tA4 := tA.mono (p1.tupS b14)
    have nl4 := b14 _ _ nlp nl1
    -- is it right
    refine ⟨_, rfl, _, rfl, _, rfl, _, rfl, _, rfl, p, 3, rfl, p4, by decide, by decide, fun r3 H5' lr3 b5 p5 => ?_⟩
    obtain ⟨x, hx⟩ : ∃ x, ns[r3]? = some x := ⟨_, List.getElem?_eq_getElem (by omega)⟩
    have bB5 : ButS p HB H5' := (bB1.trans b14).trans b5
    have eA5 : ExtN HA H5' := fun y o e n => bB5 _ _ (ne_of_none e hp) (sB _ _ e)
    have TA5 : Tabs Ts H5' := TA.ext fun y o e => bB5 _ _ (ne_of_none e hp) (sB _ _ e)
    have tA5 := tA4.mono (p4.tupS b5)
    have uA5 := uA.mono (p4.tupS b5)
    refine ⟨_, _, _, _, rfl, rfl, SqL.of (b5 _ _ nlp nl4), atI_nat (v := V.str x) (by rw [List.getElem?_map, hx] <;> rfl), ?_⟩
    refine ⟨v12, v13, kind, x, t, u, ns, ks, rfl, tA5, tO, uA5, uT, uO, nst, hkd, gk kind hkd, gns x (List.mem_of_getElem? hx), TA5, fun H6' e6 T6 => ⟨true, rfl, iteF ?_⟩⟩
    -- opened
    refine ⟨_, rfl, _, rfl, v12, v13, t, u, rfl, tA5.mono (extN_tup e6), ⟨ns, ks, 1, tO⟩, uA5.mono (extN_tup e6), T6, fun v14 H7' e7 T7 oA => ?_⟩
    have oO : ok ns ks 7 0 (chg (gOpen u) 5 0 t) := ok_open uO (by decide) tO
    have oZ : nz 7 (chg (gOpen u) 5 0 t) := nz_open uZ (by decide) tZ
    generalize chg (gOpen u) 5 0 t = so at oA oO oZ
    have eA7 := (eA5.trans e6).trans e7
    have bA7 := bA'.mono (extN_tup eA7)
    have fso : (fr 7 so).length ≤ 3 ^ 7 := fr_len oO
    have ftb : (fr 7 tb).length ≤ 3 ^ 7 := fr_len bO
    have p37 : 3 ^ 7 = 2187 := by decide
    have inD : ∀ p ∈ fr 7 so, p ∈ prd (nb ++ ns) ks := fun q hq => mem_prd (List.mem_append_right _ (fr_mem oO q hq).1) (fr_mem oO q hq).2
    have inD2 : ∀ p ∈ fr 7 tb, p ∈ prd (nb ++ ns) ks := fun q hq => mem_prd (List.mem_append_left _ (fr_mem bO q hq).1) (fr_mem bO q hq).2
    have lD : (prd (nb ++ ns) ks).length < 64 := by
      rw [len_prd, List.length_append]
      exact Nat.lt_of_le_of_lt (Nat.mul_le_mul (show nb.length + ns.length ≤ 6 by omega) l4) (by decide)
    refine ⟨_, rfl, by show 1 ≤ sizeLine; decide, fun l1 hl1 => ?_⟩
    have w1 : Same H7' (upd H7' l1 (.lst [v14])) := Same.upd hl1
    refine ⟨l1, [v14], [so], prd (nb ++ ns) ks, rfl, upd_same, .cons (oA.mono (.same w1)) .nil, fun t ht => ?_, ?_, lD, fun q hq => ?_, fun H8' w8 => ⟨true, rfl, iteF ?_⟩⟩
    · rw [List.mem_singleton.mp ht]; exact ⟨⟨ns, ks, 0, oO⟩, oZ⟩
    · rw [List.flatMap_cons, List.flatMap_nil, List.append_nil]; omega
    · rw [List.flatMap_cons, List.flatMap_nil, List.append_nil] at hq; exact inD q hq
    have w78 := w1.trans w8
    refine ⟨_, rfl, _, rfl, _, rfl, by show 3 ≤ sizeLine; decide, fun l2 hl2 => ?_⟩
    have w2 : Same H8' (upd H8' l2 (.lst [vb, v14, vb])) := Same.upd hl2
    have fl : [tb, so, tb].flatMap (fr 7) = fr 7 tb ++ (fr 7 so ++ fr 7 tb) := by simp
    refine ⟨l2, [vb, v14, vb], [tb, so, tb], prd (nb ++ ns) ks, rfl, upd_same, .cons (bA7.mono (.same (w78.trans w2))) (.cons (oA.mono (.same (w78.trans w2))) (.cons (bA7.mono (.same (w78.trans w2))) .nil)), fun t ht => ?_, ?_, lD, fun q hq => ?_, fun H9' w9 => ⟨true, rfl, iteF ?_⟩⟩
    · rcases List.mem_cons.mp ht with rfl | ht
      · exact ⟨⟨nb, ks, 0, bO⟩, bZ⟩
      · rcases List.mem_cons.mp ht with rfl | ht
        · exact ⟨⟨ns, ks, 0, oO⟩, oZ⟩
        · rw [List.mem_singleton.mp ht]; exact ⟨⟨nb, ks, 0, bO⟩, bZ⟩
    · rw [fl, List.length_append, List.length_append]; omega
    · rw [fl] at hq
      rcases List.mem_append.mp hq with h | h
      · exact inD2 q h
      · rcases List.mem_append.mp h with h | h
        · exact inD q h
        · exact inD2 q h
    have w79 := (w78.trans w2).trans w9
    refine ⟨Nat.zero_le _, fun l3 hl3 => ?_⟩
    have w3 : Same H9' (upd H9' l3 (.lst [])) := Same.upd hl3
    refine ⟨l3, [], [], [], rfl, upd_same, .nil, (fun t ht => nomatch ht), by decide, by decide, (fun q hq => nomatch hq), fun HR L rr wR hrr pL pm rise => ⟨Nat.zero_le _, fun q6 hq6 => ?_⟩⟩
    have eL : L = [] := by
      have := pm.length_eq
      rw [List.length_map] at this
      exact List.length_eq_zero_iff.mp this
    subst eL
    have w6 : Same HR (upd HR q6 (.lst [])) := Same.upd hq6
    refine ⟨_, _, .lst (SqL.of (w6 _ _ pL.1)) .nil, .lst (SqL.of upd_same) .nil, shaped_strs (ts := []) (fun _ h => nomatch h), shaped_strs (ts := []) (fun _ h => nomatch h), _, rfl, ?_⟩
    rw [show (!PyData.eqv (.list []) (.list [])) = false by simp [PyData.eqv, PyData.eqvAll]]
    refine iteF ⟨_, rfl, ?_⟩
    have wf := ((w79.trans w3).trans wR).trans w6
    exact ⟨v14, so, ns, _, _, _, _, _, _, _, _, rfl, (eA.trans eA7).trans (extN_same wf), tabs_same T7 wf, oA.mono (.same wf), by omega, oO, oZ⟩
  · obtain ⟨vb, tb, nb, o4, o8, o9, o10, o11, o12, o13, o14, rfl, eA, TA, bA', lnb, bO, bZ⟩ := q
    exact ⟨extN_frz eA (t6 _ _ hd11), kq _⟩
end
end KD

/-! KDl: the facts of the head. -/
namespace KD
open PySem PySem.Spec PyProof.Rows L2 LamX NdefX LamF KM
def dd (i : Nat) (x : Str) : He.DefD := ⟨(x, none), x, x, defArgs (top i), defBody (top i), defScope (top i), [], []⟩
def fnL : List He.DefD := [dd 1 "inner_of", dd 2 "note_names", dd 5 "opened", dd 6 "_opened", dd 7 "_deeper", dd 8 "shut", dd 9 "put_in", dd 10 "_changed", dd 11 "free_in", dd 13 "_law_seed", dd 14 "_law_state", dd 15 "_law_draw", dd 16 "_law_word", dd 17 "_law_kinds", dd 18 "_law_works", dd 19 "_law_makes", dd 20 "_law_drawn_ground", dd 21 "_law_term", dd 22 "_law_saying", dd 23 "_law_named", dd 24 "_law_exchanged", dd 25 "_law_unnamed", dd 26 "_law_free", dd 27 "_law_right", dd 28 "_law_free_right", dd 29 "law"]
def faL : List He.Fa := [.glo "inner_of", .glo "note_names", .glo "opened", .glo "_opened", .glo "_deeper", .glo "shut", .glo "put_in", .glo "_changed", .glo "free_in", .glo "_law_seed", .glo "_law_state", .glo "_law_draw", .glo "_law_word", .glo "_law_kinds", .glo "_law_works", .glo "_law_makes", .glo "_law_drawn_ground", .glo "_law_term", .glo "_law_saying", .glo "_law_named", .glo "_law_exchanged", .glo "_law_unnamed", .glo "_law_free", .glo "_law_right", .glo "_law_free_right", .glo "law", .glo "BINDS", .free "tuple", .free "len", .free "range", .free "isinstance", .free "list", .free "max", .free "min", .free "sorted", .free "set"]
def tfL : List He.Defn := [("shut", none), ("put_in", none)]
def bindsB (K : PySem.W.Frag) : Bool := match K.lookup (He.ga K "BINDS") with
  | some ⟨.type c, _, .seq its _, _⟩ => decide (c = "tuple") && (match its.toList with
    | [.str a _, .str b _] => decide (a = "all") && decide (b = "some")
    | _ => false)
  | _ => false
def pO (K : PySem.W.Frag) (x : Str) : Addr := (He.cT K (x, none)).2
def exL (K : PySem.W.Frag) : Bool := bindsB K && decide (pO K "shut" ≠ pO K "put_in")
theorem bindsB_ok {K : PySem.W.Frag} (h : bindsB K = true) : ∀ H : Hp, SqT K H (He.ga K "BINDS") [.str "all", .str "some"] := by
  intro H
  unfold bindsB at h
  cases q : K.lookup (He.ga K "BINDS") with
  | none => rw [q] at h; cases h
  | some o =>
    rw [q] at h
    obtain ⟨oc, od, dt, osl⟩ := o
    cases oc with
    | type c =>
      cases dt with
      | seq its m =>
        have h2 : (decide (c = "tuple") && (match its.toList with
          | [.str a _, .str b _] => decide (a = "all") && decide (b = "some")
          | _ => false)) = true := h
        obtain ⟨h3, h4⟩ := He.ba h2
        have ec : c = "tuple" := of_decide_eq_true h3
        match e : its.toList, h4 with
        | [.str a ta, .str b tb], h4 =>
          obtain ⟨h5, h6⟩ := He.ba h4
          have ea := of_decide_eq_true h5
          have eb := of_decide_eq_true h6
          refine .inr ⟨_, its, m, q, by rw [ec], rfl, ?_, ?_⟩
          · rw [← Array.length_toList, e]; show 2 ≤ sizeLine; decide
          · rw [e, ea, eb]
            exact .cons ⟨ta, rfl⟩ (.cons ⟨tb, rfl⟩ .nil)
      | _ => cases h
    | _ => cases dt <;> cases h
theorem funC_of {K : PySem.W.Frag} {x : Str} {st : Stmt} {fd : FuncData} (F : Fun K x x st (He.fAd K (x, none)) fd) : FunC K x x st (He.fAd K (x, none)) fd (He.cT K (x, none)).1 := by
  obtain ⟨oc, od, kV, doc, pm, an, cdv, ct, osl, e, lk, hc⟩ := F.ex
  obtain ⟨c, rfl⟩ := He.codeIn_ref hc
  have ec : He.codeOf K (x, none) = c := He.codeOf_eq lk (by rw [e])
  refine ⟨⟨oc, od, kV, doc, pm, an, ct, osl, ?_, lk, ?_⟩, F.kp⟩
  · show fd = PySem.W.fnOf x x (defArgs st) (defBody st) (defScope st) .none kV doc pm an (.ref (He.codeOf K (x, none))) ct
    rw [ec]
    exact e
  · show PySem.W.codeIn K (.ref (He.codeOf K (x, none))) x = true
    rw [ec]
    exact hc
theorem glo_f {K : PySem.W.Frag} {h : Heap} {mg : Str → Option Value} (X : K.In h) (G : h.Ns mainGlobals mg) {x : Str} (c : (He.Fa.glo x).ok K = true) : mg x = some (.ref (He.fAd K (x, none))) := He.glo_ok X G c
abbrev tsL (K : PySem.W.Frag) : List (Addr × Str) := [(pO K "shut", qSh), (pO K "put_in", qPu)]
theorem facts {w : World} {K : PySem.W.Frag} {h : Heap} {mg : Str → Option Value} {f : Addr} (X : K.In h) (G : h.Ns mainGlobals mg) (hfa : mg ("law" : Str) = some (.ref f)) (c : He.SaysX faL fnL [] tfL exL w h K) :
    LawAtS PySem.Challenge.rw_goalsmith_k32_opened_and_shut w K CX0 40 63 "_law_script" mg f h := by
  have cd := c.t.d
  obtain ⟨d1, D1⟩ := cd.def_ 0 (d := dd 1 "inner_of") rfl
  have F1 : Fun K "inner_of" "inner_of" (top 1) (He.fAd K ("inner_of", none)) d1 := He5.fun_of D1
  have m1 := glo_f X G (cd.fact 0 (f := .glo "inner_of") rfl)
  have b1 : Binds K d1 ["thing"] [] := F1.binds fun _ _ _ _ _ _ us hl => match us, hl with | [_], _ => rfl
  have C1 : Cal K mg "inner_of" ["thing"] (He.fAd K ("inner_of", none)) d1 := ⟨F1.kp, b1, m1⟩
  obtain ⟨d2, D2⟩ := cd.def_ 1 (d := dd 2 "note_names") rfl
  have F2 : Fun K "note_names" "note_names" (top 2) (He.fAd K ("note_names", none)) d2 := He5.fun_of D2
  have m2 := glo_f X G (cd.fact 1 (f := .glo "note_names") rfl)
  have b2 : Binds K d2 ["thing", "found"] [] := F2.binds fun _ _ _ _ _ _ us hl => match us, hl with | [_, _], _ => rfl
  have C2 : Cal K mg "note_names" ["thing", "found"] (He.fAd K ("note_names", none)) d2 := ⟨F2.kp, b2, m2⟩
  obtain ⟨d5, D5⟩ := cd.def_ 2 (d := dd 5 "opened") rfl
  have F5 : Fun K "opened" "opened" (top 5) (He.fAd K ("opened", none)) d5 := He5.fun_of D5
  have m5 := glo_f X G (cd.fact 2 (f := .glo "opened") rfl)
  have b5 : Binds K d5 ["body", "term"] [] := F5.binds fun _ _ _ _ _ _ us hl => match us, hl with | [_, _], _ => rfl
  have C5 : Cal K mg "opened" ["body", "term"] (He.fAd K ("opened", none)) d5 := ⟨F5.kp, b5, m5⟩
  obtain ⟨d6, D6⟩ := cd.def_ 3 (d := dd 6 "_opened") rfl
  have F6 : Fun K "_opened" "_opened" (top 6) (He.fAd K ("_opened", none)) d6 := He5.fun_of D6
  have m6 := glo_f X G (cd.fact 3 (f := .glo "_opened") rfl)
  have b6 : Binds K d6 ["thing", "meant", "term"] [] := F6.binds fun _ _ _ _ _ _ us hl => match us, hl with | [_, _, _], _ => rfl
  have C6 : Cal K mg "_opened" ["thing", "meant", "term"] (He.fAd K ("_opened", none)) d6 := ⟨F6.kp, b6, m6⟩
  obtain ⟨d7, D7⟩ := cd.def_ 4 (d := dd 7 "_deeper") rfl
  have F7 : Fun K "_deeper" "_deeper" (top 7) (He.fAd K ("_deeper", none)) d7 := He5.fun_of D7
  have m7 := glo_f X G (cd.fact 4 (f := .glo "_deeper") rfl)
  have b7 : Binds K d7 ["meant"] [] := F7.binds fun _ _ _ _ _ _ us hl => match us, hl with | [_], _ => rfl
  have C7 : Cal K mg "_deeper" ["meant"] (He.fAd K ("_deeper", none)) d7 := ⟨F7.kp, b7, m7⟩
  obtain ⟨d8, D8⟩ := cd.def_ 5 (d := dd 8 "shut") rfl
  have F8 : Fun K "shut" "shut" (top 8) (He.fAd K ("shut", none)) d8 := He5.fun_of D8
  have m8 := glo_f X G (cd.fact 5 (f := .glo "shut") rfl)
  have b8 : Binds K d8 ["saying", "x", "kind"] [] := F8.binds fun _ _ _ _ _ _ us hl => match us, hl with | [_, _, _], _ => rfl
  have C8 : Cal K mg "shut" ["saying", "x", "kind"] (He.fAd K ("shut", none)) d8 := ⟨F8.kp, b8, m8⟩
  obtain ⟨d9, D9⟩ := cd.def_ 6 (d := dd 9 "put_in") rfl
  have F9 : Fun K "put_in" "put_in" (top 9) (He.fAd K ("put_in", none)) d9 := He5.fun_of D9
  have m9 := glo_f X G (cd.fact 6 (f := .glo "put_in") rfl)
  have b9 : Binds K d9 ["saying", "x", "kind", "term"] [] := F9.binds fun _ _ _ _ _ _ us hl => match us, hl with | [_, _, _, _], _ => rfl
  have C9 : Cal K mg "put_in" ["saying", "x", "kind", "term"] (He.fAd K ("put_in", none)) d9 := ⟨F9.kp, b9, m9⟩
  obtain ⟨d10, D10⟩ := cd.def_ 7 (d := dd 10 "_changed") rfl
  have F10 : Fun K "_changed" "_changed" (top 10) (He.fAd K ("_changed", none)) d10 := He5.fun_of D10
  have m10 := glo_f X G (cd.fact 7 (f := .glo "_changed") rfl)
  have b10 : Binds K d10 ["thing", "deep", "change"] [] := F10.binds fun _ _ _ _ _ _ us hl => match us, hl with | [_, _, _], _ => rfl
  have C10 : Cal K mg "_changed" ["thing", "deep", "change"] (He.fAd K ("_changed", none)) d10 := ⟨F10.kp, b10, m10⟩
  obtain ⟨d11, D11⟩ := cd.def_ 8 (d := dd 11 "free_in") rfl
  have F11 : Fun K "free_in" "free_in" (top 11) (He.fAd K ("free_in", none)) d11 := He5.fun_of D11
  have m11 := glo_f X G (cd.fact 8 (f := .glo "free_in") rfl)
  have b11 : Binds K d11 ["sayings"] [] := F11.binds fun _ _ _ _ _ _ us hl => match us, hl with | [_], _ => rfl
  have C11 : Cal K mg "free_in" ["sayings"] (He.fAd K ("free_in", none)) d11 := ⟨F11.kp, b11, m11⟩
  obtain ⟨d13, D13⟩ := cd.def_ 9 (d := dd 13 "_law_seed") rfl
  have F13 : Fun K "_law_seed" "_law_seed" (top 13) (He.fAd K ("_law_seed", none)) d13 := He5.fun_of D13
  have m13 := glo_f X G (cd.fact 9 (f := .glo "_law_seed") rfl)
  have b13 : Binds K d13 ["_law_script", "_law_k"] [] := F13.binds fun _ _ _ _ _ _ us hl => match us, hl with | [_, _], _ => rfl
  have C13 : Cal K mg "_law_seed" ["_law_script", "_law_k"] (He.fAd K ("_law_seed", none)) d13 := ⟨F13.kp, b13, m13⟩
  obtain ⟨d14, D14⟩ := cd.def_ 10 (d := dd 14 "_law_state") rfl
  have F14 : Fun K "_law_state" "_law_state" (top 14) (He.fAd K ("_law_state", none)) d14 := He5.fun_of D14
  have m14 := glo_f X G (cd.fact 10 (f := .glo "_law_state") rfl)
  have b14 : Binds K d14 ["_law_cell"] [] := F14.binds fun _ _ _ _ _ _ us hl => match us, hl with | [_], _ => rfl
  have C14 : Cal K mg "_law_state" ["_law_cell"] (He.fAd K ("_law_state", none)) d14 := ⟨F14.kp, b14, m14⟩
  obtain ⟨d15, D15⟩ := cd.def_ 11 (d := dd 15 "_law_draw") rfl
  have F15 : Fun K "_law_draw" "_law_draw" (top 15) (He.fAd K ("_law_draw", none)) d15 := He5.fun_of D15
  have m15 := glo_f X G (cd.fact 11 (f := .glo "_law_draw") rfl)
  have b15 : Binds K d15 ["_law_state_here", "_law_many"] [] := F15.binds fun _ _ _ _ _ _ us hl => match us, hl with | [_, _], _ => rfl
  have C15 : Cal K mg "_law_draw" ["_law_state_here", "_law_many"] (He.fAd K ("_law_draw", none)) d15 := ⟨F15.kp, b15, m15⟩
  obtain ⟨d16, D16⟩ := cd.def_ 12 (d := dd 16 "_law_word") rfl
  have F16 : Fun K "_law_word" "_law_word" (top 16) (He.fAd K ("_law_word", none)) d16 := He5.fun_of D16
  have m16 := glo_f X G (cd.fact 12 (f := .glo "_law_word") rfl)
  have b16 : Binds K d16 ["_law_state_here", "_law_others"] [] := F16.binds fun _ _ _ _ _ _ us hl => match us, hl with | [_, _], _ => rfl
  have C16 : Cal K mg "_law_word" ["_law_state_here", "_law_others"] (He.fAd K ("_law_word", none)) d16 := ⟨F16.kp, b16, m16⟩
  obtain ⟨d17, D17⟩ := cd.def_ 13 (d := dd 17 "_law_kinds") rfl
  have F17 : Fun K "_law_kinds" "_law_kinds" (top 17) (He.fAd K ("_law_kinds", none)) d17 := He5.fun_of D17
  have m17 := glo_f X G (cd.fact 13 (f := .glo "_law_kinds") rfl)
  have b17 : Binds K d17 ["_law_state_here", "_law_taken"] [] := F17.binds fun _ _ _ _ _ _ us hl => match us, hl with | [_, _], _ => rfl
  have C17 : Cal K mg "_law_kinds" ["_law_state_here", "_law_taken"] (He.fAd K ("_law_kinds", none)) d17 := ⟨F17.kp, b17, m17⟩
  obtain ⟨d18, D18⟩ := cd.def_ 14 (d := dd 18 "_law_works") rfl
  have F18 : Fun K "_law_works" "_law_works" (top 18) (He.fAd K ("_law_works", none)) d18 := He5.fun_of D18
  have m18 := glo_f X G (cd.fact 14 (f := .glo "_law_works") rfl)
  have b18 : Binds K d18 ["_law_state_here", "_law_kinds_here", "_law_taken"] [] := F18.binds fun _ _ _ _ _ _ us hl => match us, hl with | [_, _, _], _ => rfl
  have C18 : Cal K mg "_law_works" ["_law_state_here", "_law_kinds_here", "_law_taken"] (He.fAd K ("_law_works", none)) d18 := ⟨F18.kp, b18, m18⟩
  obtain ⟨d19, D19⟩ := cd.def_ 15 (d := dd 19 "_law_makes") rfl
  have F19 : Fun K "_law_makes" "_law_makes" (top 19) (He.fAd K ("_law_makes", none)) d19 := He5.fun_of D19
  have m19 := glo_f X G (cd.fact 15 (f := .glo "_law_makes") rfl)
  have b19 : Binds K d19 ["_law_kinds_here", "_law_works_here"] [] := F19.binds fun _ _ _ _ _ _ us hl => match us, hl with | [_, _], _ => rfl
  have C19 : Cal K mg "_law_makes" ["_law_kinds_here", "_law_works_here"] (He.fAd K ("_law_makes", none)) d19 := ⟨F19.kp, b19, m19⟩
  obtain ⟨d20, D20⟩ := cd.def_ 16 (d := dd 20 "_law_drawn_ground") rfl
  have F20 : Fun K "_law_drawn_ground" "_law_drawn_ground" (top 20) (He.fAd K ("_law_drawn_ground", none)) d20 := He5.fun_of D20
  have m20 := glo_f X G (cd.fact 16 (f := .glo "_law_drawn_ground") rfl)
  have b20 : Binds K d20 ["_law_state_here"] [] := F20.binds fun _ _ _ _ _ _ us hl => match us, hl with | [_], _ => rfl
  have C20 : Cal K mg "_law_drawn_ground" ["_law_state_here"] (He.fAd K ("_law_drawn_ground", none)) d20 := ⟨F20.kp, b20, m20⟩
  obtain ⟨d21, D21⟩ := cd.def_ 17 (d := dd 21 "_law_term") rfl
  have F21 : Fun K "_law_term" "_law_term" (top 21) (He.fAd K ("_law_term", none)) d21 := He5.fun_of D21
  have m21 := glo_f X G (cd.fact 17 (f := .glo "_law_term") rfl)
  have b21 : Binds K d21 pTe [] := F21.binds fun _ _ _ _ _ _ us hl => match us, hl with | [_, _, _, _, _, _], _ => rfl
  have C21 : Cal K mg "_law_term" pTe (He.fAd K ("_law_term", none)) d21 := ⟨F21.kp, b21, m21⟩
  obtain ⟨d22, D22⟩ := cd.def_ 18 (d := dd 22 "_law_saying") rfl
  have F22 : Fun K "_law_saying" "_law_saying" (top 22) (He.fAd K ("_law_saying", none)) d22 := He5.fun_of D22
  have m22 := glo_f X G (cd.fact 18 (f := .glo "_law_saying") rfl)
  have b22 : Binds K d22 pSa [] := F22.binds fun _ _ _ _ _ _ us hl => match us, hl with | [_, _, _, _, _, _, _], _ => rfl
  have C22 : Cal K mg "_law_saying" pSa (He.fAd K ("_law_saying", none)) d22 := ⟨F22.kp, b22, m22⟩
  obtain ⟨d23, D23⟩ := cd.def_ 19 (d := dd 23 "_law_named") rfl
  have F23 : Fun K "_law_named" "_law_named" (top 23) (He.fAd K ("_law_named", none)) d23 := He5.fun_of D23
  have m23 := glo_f X G (cd.fact 19 (f := .glo "_law_named") rfl)
  have b23 : Binds K d23 ["_law_thing", "_law_around"] [] := F23.binds fun _ _ _ _ _ _ us hl => match us, hl with | [_, _], _ => rfl
  have C23 : Cal K mg "_law_named" ["_law_thing", "_law_around"] (He.fAd K ("_law_named", none)) d23 := ⟨F23.kp, b23, m23⟩
  obtain ⟨d24, D24⟩ := cd.def_ 20 (d := dd 24 "_law_exchanged") rfl
  have F24 : Fun K "_law_exchanged" "_law_exchanged" (top 24) (He.fAd K ("_law_exchanged", none)) d24 := He5.fun_of D24
  have m24 := glo_f X G (cd.fact 20 (f := .glo "_law_exchanged") rfl)
  have b24 : Binds K d24 ["_law_thing", "_law_old", "_law_new"] [] := F24.binds fun _ _ _ _ _ _ us hl => match us, hl with | [_, _, _], _ => rfl
  have C24 : Cal K mg "_law_exchanged" ["_law_thing", "_law_old", "_law_new"] (He.fAd K ("_law_exchanged", none)) d24 := ⟨F24.kp, b24, m24⟩
  obtain ⟨d25, D25⟩ := cd.def_ 21 (d := dd 25 "_law_unnamed") rfl
  have F25 : Fun K "_law_unnamed" "_law_unnamed" (top 25) (He.fAd K ("_law_unnamed", none)) d25 := He5.fun_of D25
  have m25 := glo_f X G (cd.fact 21 (f := .glo "_law_unnamed") rfl)
  have b25 : Binds K d25 ["_law_thing", "_law_around"] [] := F25.binds fun _ _ _ _ _ _ us hl => match us, hl with | [_, _], _ => rfl
  have C25 : Cal K mg "_law_unnamed" ["_law_thing", "_law_around"] (He.fAd K ("_law_unnamed", none)) d25 := ⟨F25.kp, b25, m25⟩
  obtain ⟨d26, D26⟩ := cd.def_ 22 (d := dd 26 "_law_free") rfl
  have F26 : Fun K "_law_free" "_law_free" (top 26) (He.fAd K ("_law_free", none)) d26 := He5.fun_of D26
  have m26 := glo_f X G (cd.fact 22 (f := .glo "_law_free") rfl)
  have b26 : Binds K d26 ["_law_thing"] [] := F26.binds fun _ _ _ _ _ _ us hl => match us, hl with | [_], _ => rfl
  have C26 : Cal K mg "_law_free" ["_law_thing"] (He.fAd K ("_law_free", none)) d26 := ⟨F26.kp, b26, m26⟩
  obtain ⟨d27, D27⟩ := cd.def_ 23 (d := dd 27 "_law_right") rfl
  have F27 : Fun K "_law_right" "_law_right" (top 27) (He.fAd K ("_law_right", none)) d27 := He5.fun_of D27
  have m27 := glo_f X G (cd.fact 23 (f := .glo "_law_right") rfl)
  have b27 : Binds K d27 ["_law_body", "_law_kind", "_law_term_here", "_law_x"] [] := F27.binds fun _ _ _ _ _ _ us hl => match us, hl with | [_, _, _, _], _ => rfl
  have C27 : Cal K mg "_law_right" ["_law_body", "_law_kind", "_law_term_here", "_law_x"] (He.fAd K ("_law_right", none)) d27 := ⟨F27.kp, b27, m27⟩
  obtain ⟨d28, D28⟩ := cd.def_ 24 (d := dd 28 "_law_free_right") rfl
  have F28 : Fun K "_law_free_right" "_law_free_right" (top 28) (He.fAd K ("_law_free_right", none)) d28 := He5.fun_of D28
  have m28 := glo_f X G (cd.fact 24 (f := .glo "_law_free_right") rfl)
  have b28 : Binds K d28 ["_law_sayings"] [] := F28.binds fun _ _ _ _ _ _ us hl => match us, hl with | [_], _ => rfl
  have C28 : Cal K mg "_law_free_right" ["_law_sayings"] (He.fAd K ("_law_free_right", none)) d28 := ⟨F28.kp, b28, m28⟩
  obtain ⟨d29, D29⟩ := cd.def_ 25 (d := dd 29 "law") rfl
  have F29 : Fun K "law" "law" (top 29) (He.fAd K ("law", none)) d29 := He5.fun_of D29
  have m29 := glo_f X G (cd.fact 25 (f := .glo "law") rfl)
  have b29 : Binds K d29 ["_law_script"] [] := F29.binds fun _ _ _ _ _ _ us hl => match us, hl with | [_], _ => rfl
  have C29 : Cal K mg "law" ["_law_script"] (He.fAd K ("law", none)) d29 := ⟨F29.kp, b29, m29⟩
  obtain ⟨e1, e2⟩ := He.ba (show (bindsB K && decide (pO K "shut" ≠ pO K "put_in")) = true from c.more)
  have n23 := of_decide_eq_true e2
  have XP : TxtP K mg (He.ga K "BINDS") := ⟨He.free_ok X G (cd.fact 27 (f := .free "tuple") rfl), He.glo_ok X G (cd.fact 26 (f := .glo "BINDS") rfl), bindsB_ok e1⟩
  have XL : TxtL mg := ⟨He.free_ok X G (cd.fact 27 (f := .free "tuple") rfl), He.free_ok X G (cd.fact 28 (f := .free "len") rfl), He.free_ok X G (cd.fact 29 (f := .free "range") rfl), He.free_ok X G (cd.fact 30 (f := .free "isinstance") rfl), He.free_ok X G (cd.fact 31 (f := .free "list") rfl), He.free_ok X G (cd.fact 32 (f := .free "max") rfl), He.free_ok X G (cd.fact 33 (f := .free "min") rfl), He.free_ok X G (cd.fact 34 (f := .free "sorted") rfl), He.free_ok X G (cd.fact 35 (f := .free "set") rfl)⟩
  have ef : f = He.fAd K ("law", none) := by
    have := hfa.symm.trans m29
    injection this with this
    injection this with this
  subst ef
  have K2 := funC_of F8
  have K3 := funC_of F9
  refine ⟨d29, tfL.map (He.cT K), spLaw K (tsL K), fun p hp => ?_, fun p hp => ?_, fun p hp => ?_, fun s u => FunD.bindsA (ps := ["_law_script"]) D29 (fun _ _ _ _ _ _ us hl => match us, hl with | [_], _ => rfl) s [u] rfl, fun H a ns hl _ hT hS => ⟨a, ns, rfl, hS, hl, ?_, fun _ => rfl⟩, fun base X2 G2 hTB => ?_⟩
  · obtain ⟨q, hq, rfl⟩ := List.mem_map.mp hp
    exact c.empty q hq
  · obtain ⟨q, hq, rfl⟩ := List.mem_map.mp hp
    exact c.out q hq
  · obtain ⟨q, hq, rfl⟩ := List.mem_map.mp hp
    exact PySem.W.codeHd_of_K X (c.hd q hq)
  · intro p hp
    rcases List.mem_cons.mp hp with rfl | hp
    · exact TabS.nil (hT _ (List.mem_map.mpr ⟨("shut", none), by simp [tfL], rfl⟩))
    · rw [List.mem_singleton.mp hp]
      exact TabS.nil (hT _ (List.mem_map.mpr ⟨("put_in", none), by simp [tfL], rfl⟩))
  · have t2 : TabB base mg (He.cT K ("shut", none)).1 (pO K "shut") := hTB _ (List.mem_map.mpr ⟨("shut", none), by simp [tfL], rfl⟩)
    have t3 : TabB base mg (He.cT K ("put_in", none)).1 (pO K "put_in") := hTB _ (List.mem_map.mpr ⟨("put_in", none), by simp [tfL], rfl⟩)
    have u2 : ∀ r ∈ tsL K, r.1 = pO K "shut" → r.2 = qSh := fun r hr e => by
      rcases List.mem_cons.mp hr with rfl | hr
      · rfl
      · rw [List.mem_singleton.mp hr] at e
        exact absurd e (Ne.symm n23)
    have u3 : ∀ r ∈ tsL K, r.1 = pO K "put_in" → r.2 = qPu := fun r hr e => by
      rcases List.mem_cons.mp hr with rfl | hr
      · exact absurd e n23
      · rw [List.mem_singleton.mp hr]
    have hOp := fun h => ok_opened (P := (PySem.Challenge.rw_goalsmith_k32_opened_and_shut).prog) (w := w) (base := base) (Ts := tsL K) h F5 F6 b6 m6 F7 b7 m7 XP
    have hSh := fun h => ok_shut (P := (PySem.Challenge.rw_goalsmith_k32_opened_and_shut).prog) (w := w) (Ts := tsL K) h K2 F10 b10 m10 XP t2 (by simp) u2
    have hPu := fun h => ok_put (P := (PySem.Challenge.rw_goalsmith_k32_opened_and_shut).prog) (w := w) (Ts := tsL K) h K3 F10 b10 m10 XP t3 (by simp) u3
    exact ok_law F29 XL C13 (ok_seed F13 XL) C14 (ok_state F14 XL) C20 (ok_ground F20 F15 b15 m15 F16 b16 m16 F17 b17 m17 F18 b18 m18 XL) C19 (ok_makes F19) C15 (ok_draw F15) C22 (ok_say F22 b22 m22 F21 b21 m21 F15 b15 m15 XL) C21 (ok_term F21 b21 m21 F15 b15 m15 XL)
      C27 (ok_right F27 C23 (ok_named F23 b23 m23 XL) C24 (ok_ex F24 b24 m24 XL) C25 (ok_un F25 b25 m25 XL) C5 hOp C8 hSh C9 hPu XL) C5 hOp C28 (fun h hh => ok_lfr h hh F28 XL F2 b2 m2 F1 b1 m1 F11 b11 m11 F26 b26 m26) C11 (fun h => ok_freeIn h F11 XL F2 b2 m2 F1 b1 m1) 28
end KD

/-! KDm: the head's run, the law. -/
namespace KD
open PySem PySem.Spec PyProof.Rows L2 LamX NdefX LamF KM
abbrev RL : PySem.W.OpenRow := PySem.W.OpenLaw.row PySem.Challenge.rw_goalsmith_k32_opened_and_shut
abbrev hkL : PySem.W.Hook := He.hookX 5 faL fnL [] tfL exL
def obL (s : PySem.W.SharedT) : He.AlX := He.obsX 5 faL fnL [] tfL exL (HandSHeadRun.getT s)
theorem obL_eq (s : PySem.W.SharedT) : obL s = hkL.obs s.abs := He.obsX_eq (HandSHeadRun.getT_eq s)
def nmsL : List Str := ["inner_of", "note_names", "BINDS", "opened", "_opened", "_deeper", "shut", "put_in", "_changed", "free_in", "_law_seed", "_law_state", "_law_draw", "_law_word", "_law_kinds", "_law_works", "_law_makes", "_law_drawn_ground", "_law_term", "_law_saying", "_law_named", "_law_exchanged", "_law_unnamed", "_law_free", "_law_right", "_law_free_right"]
theorem runL (w : World) : HandSHeadRun.RunEq RL (PySem.W.view RL.prog [29]) hkL obL 4000 nmsL w := by
  intro os
  kernel_rfl
end KD
open PySem PySem.W PySem.Calls PyProof.Rows
theorem PySem.Challenge.cw_goalsmith_k32_opened_and_shut_holds : PySem.Challenge.rw_goalsmith_k32_opened_and_shut.Holds := by
  w_on; o_law
  refine HandSHeadRun.head_any (r := OpenLaw.row PySem.Challenge.rw_goalsmith_k32_opened_and_shut) (q := view (OpenLaw.row PySem.Challenge.rw_goalsmith_k32_opened_and_shut).prog [29]) (H := KD.hkL) (ob := KD.obL) (M := 4000) (loose := KD.nmsL) (d := HandSHeadRun.topDef (OpenLaw.row PySem.Challenge.rw_goalsmith_k32_opened_and_shut).prog 29) (kwd := []) KD.obL_eq
    (by kernel_rfl) (fun s => by kernel_rfl) KD.runL (by kernel_rfl) (by kernel_rfl) (by kernel_rfl) (by rfl) (by first | assumption | decide +kernel) (by decide +kernel) ⟨rfl, rfl, rfl, rfl, rfl, by decide +kernel⟩ ?hw ?hc
  case hw => w_witness2
  case hc =>
    refine LamX.walk_ofTsE (l := PySem.Challenge.rw_goalsmith_k32_opened_and_shut) (n := 63) (k := 40) (x := "_law_script") (CX := fun _ => L2.CX0) rfl (by decide) (by kernel_rfl) ⟨rfl, by decide, by decide⟩ ?F (fun _ _ _ _ _ z => z)
    intro w mg fa h Y G hmg0
    obtain ⟨K, KX, c⟩ := Y
    have hmg : mg ("law" : PySem.Str) = some (.ref fa) := by
      have e : (HandSHeadRun.topDef (OpenLaw.row PySem.Challenge.rw_goalsmith_k32_opened_and_shut).prog 29).name = ("law" : PySem.Str) := by kernel_rfl
      rw [← e]
      exact hmg0
    exact ⟨K, KX, KD.facts KX G hmg c⟩

