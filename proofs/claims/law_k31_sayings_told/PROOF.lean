import PyProof.Rows.All
import Wide.All
import OpenK.AllK
import Wide.FinOn
import KE.KStateDown
import PySem.Str
import HandS.Nested
import HandS.CallLocal
import HandS.ForMost
import HandS.TupAny
import HandS.IsInst
import HandS.Wide
import HandS.Iter
import HandS.Small
import HandS.GenCall
import HandS.AnyAll
import HandS.Comp
import PyProof.GenCompD
import PyProof.ConsumeS
import HandS.Words
import HandS.Text
import HandS.Flow
import HandS.Zip
import HandS.More
import HandS.SetKeys
import KE.KDictZip
import PyProof.EnumMake
import KE.KEqNest
import HandS.Base
import HandS.Call
import HandS.Ends
import HandS.Defaults
import HandS.Head0
import HandS.Head1
import HandS.Head2
import HandS.HeadEnd
import HandS.HeadHook1
import HandS.HeadHook2
import HandS.HeadHook3
import HandS.HeadHook4
import HandS.HeadNt
import HandS.HeadWalk
import PySem.Challenge.RW_goalsmith_k31_sayings_told
set_option Elab.async false
set_option linter.all false
set_option autoImplicit false
set_option maxRecDepth 100000
set_option maxHeartbeats 8000000
/-! KM1: terms and sayings as trees; opened, shut, put in; the same by names. Plain Lean. -/
namespace KM
open PySem
inductive Bw | al | so
  deriving DecidableEq
inductive Nw | same | no | nt | an | orr | sw
  deriving DecidableEq
inductive T where
  | nam (x k : Str)
  | bnd (n : Nat)
  | var (n : Nat)
  | mad (f : Str) (ps : List T)
  | bin (w : Bw) (k : Str) (a : T)
  | bnn (w : Bw) (k : Str) (n : Nat) (a : T)
  | nod (w : Nw) (ps : List T)
/-- a short text of small letters -/
def G (x : Str) : Prop := x.cps.toList.length ≤ 8 ∧ ∀ c ∈ x.cps.toList, 97 ≤ c ∧ c ≤ 122
/-- a tree as the laws draw them: at most h high, what is meant stands below m, the names among ns, their kinds among ks -/
def ok (ns ks : List Str) : Nat → Nat → T → Prop
  | 0, _, _ => False
  | _ + 1, _, .nam x k => (x ∈ ns ∧ G x) ∧ (k ∈ ks ∧ G k)
  | _ + 1, m, .bnd n => n < m
  | _ + 1, _, .var _ => False
  | h + 1, m, .mad f ps => (ps.length ≤ 3 ∧ G f) ∧ ∀ p ∈ ps, ok ns ks h m p
  | h + 1, m, .bin _ k a => (k ∈ ks ∧ G k) ∧ ok ns ks h (m + 1) a
  | _ + 1, _, .bnn _ _ _ _ => False
  | h + 1, m, .nod _ ps => ps.length ≤ 2 ∧ ∀ p ∈ ps, ok ns ks h m p
theorem ok_le {ns ks : List Str} : ∀ {h h' m m' : Nat} {t : T}, ok ns ks h m t → h ≤ h' → m ≤ m' → ok ns ks h' m' t
  | 0, _, _, _, _, x, _, _ => x.elim
  | h + 1, 0, _, _, _, _, l, _ => absurd l (by omega)
  | h + 1, h' + 1, m, m', .nam x k, q, _, _ => q
  | h + 1, h' + 1, m, m', .bnd n, q, _, l => Nat.lt_of_lt_of_le q l
  | h + 1, h' + 1, m, m', .var n, q, _, _ => q
  | h + 1, h' + 1, m, m', .mad f ps, q, l, l2 => ⟨q.1, fun p hp => ok_le (q.2 p hp) (by omega) l2⟩
  | h + 1, h' + 1, m, m', .bin w k a, q, l, l2 => ⟨q.1, ok_le q.2 (by omega) (by omega)⟩
  | h + 1, h' + 1, m, m', .bnn _ _ _ _, q, _, _ => q
  | h + 1, h' + 1, m, m', .nod w ps, q, l, l2 => ⟨q.1, fun p hp => ok_le (q.2 p hp) (by omega) l2⟩
theorem ok_sub {ns ns' ks ks' : List Str} (hn : ∀ x ∈ ns, x ∈ ns') (hk : ∀ x ∈ ks, x ∈ ks') : ∀ {h m : Nat} {t : T}, ok ns ks h m t → ok ns' ks' h m t
  | 0, _, _, x => x.elim
  | h + 1, m, .nam x k, q => ⟨⟨hn x q.1.1, q.1.2⟩, ⟨hk k q.2.1, q.2.2⟩⟩
  | h + 1, m, .bnd n, q => q
  | h + 1, m, .var n, q => q
  | h + 1, m, .mad f ps, q => ⟨q.1, fun p hp => ok_sub hn hk (q.2 p hp)⟩
  | h + 1, m, .bin w k a, q => ⟨⟨hk k q.1.1, q.1.2⟩, ok_sub hn hk q.2⟩
  | h + 1, m, .bnn _ _ _ _, q => q
  | h + 1, m, .nod w ps, q => ⟨q.1, fun p hp => ok_sub hn hk (q.2 p hp)⟩
/-! ### leaves changed -/
def chg (g : T → Nat → T) : Nat → Nat → T → T
  | 0, _, t => t
  | _ + 1, d, .nam x k => g (.nam x k) d
  | _ + 1, d, .bnd n => g (.bnd n) d
  | _ + 1, _, .var n => .var n
  | h + 1, d, .mad f ps => .mad f (ps.map (chg g h d))
  | h + 1, d, .bin w k a => .bin w k (chg g h (d + 1) a)
  | _ + 1, _, .bnn w k n a => .bnn w k n a
  | h + 1, d, .nod w ps => .nod w (ps.map (chg g h d))
def gOpen (term : T) : T → Nat → T
  | .bnd n, d => if n = d then term else .bnd n
  | t, _ => t
def gShut (x k : Str) : T → Nat → T
  | .nam y j, d => if y = x ∧ j = k then .bnd d else .nam y j
  | t, _ => t
def gPut (x k : Str) (term : T) : T → Nat → T
  | .nam y j, _ => if y = x ∧ j = k then term else .nam y j
  | t, _ => t
/-! ### what is meant by names, exchanged, and back -/
def nm : Nat → Nat → T → T
  | 0, _, t => t
  | _ + 1, _, .nam x k => .nam x k
  | _ + 1, j, .bnd n => .var (j - n)
  | _ + 1, _, .var n => .var n
  | h + 1, j, .mad f ps => .mad f (ps.map (nm h j))
  | h + 1, j, .bin w k a => .bnn w k (j + 1) (nm h (j + 1) a)
  | _ + 1, _, .bnn w k n a => .bnn w k n a
  | h + 1, j, .nod w ps => .nod w (ps.map (nm h j))
def isN (x k : Str) : T → Bool
  | .nam y j => decide (y = x ∧ j = k)
  | _ => false
def isV (n : Nat) : T → Bool
  | .var m => decide (m = n)
  | _ => false
def ex (p : T → Bool) (new : T) : Nat → T → T
  | 0, t => t
  | h + 1, t => if p t = true then new else match t with
    | .mad f ps => .mad f (ps.map (ex p new h))
    | .bnn w k n a => .bnn w k n (ex p new h a)
    | .nod w ps => .nod w (ps.map (ex p new h))
    | t => t
def un : Nat → Nat → T → T
  | 0, _, t => t
  | _ + 1, _, .nam x k => .nam x k
  | _ + 1, _, .bnd n => .bnd n
  | _ + 1, j, .var n => .bnd (j - n)
  | h + 1, j, .mad f ps => .mad f (ps.map (un h j))
  | _ + 1, _, .bin w k a => .bin w k a
  | h + 1, j, .bnn w k n a => .bin w k (un h n a)
  | h + 1, j, .nod w ps => .nod w (ps.map (un h j))
/-- a tree by names: what is bound is named lo .. j -/
def okN : Nat → Nat → Nat → T → Prop
  | 0, _, _, _ => False
  | _ + 1, _, _, .nam x k => G x ∧ G k
  | _ + 1, _, _, .bnd _ => False
  | _ + 1, lo, j, .var n => lo ≤ n ∧ n ≤ j
  | h + 1, lo, j, .mad f ps => (ps.length ≤ 3 ∧ G f) ∧ ∀ p ∈ ps, okN h lo j p
  | _ + 1, _, _, .bin _ _ _ => False
  | h + 1, lo, j, .bnn _ k n a => (n = j + 1 ∧ G k) ∧ okN h lo n a
  | h + 1, lo, j, .nod _ ps => ps.length ≤ 2 ∧ ∀ p ∈ ps, okN h lo j p
theorem okN_le : ∀ {h h' lo lo' j : Nat} {t : T}, okN h lo j t → h ≤ h' → lo' ≤ lo → okN h' lo' j t
  | 0, _, _, _, _, _, x, _, _ => x.elim
  | h + 1, 0, _, _, _, _, _, l, _ => absurd l (by omega)
  | h + 1, h' + 1, _, _, _, .nam x k, q, _, _ => q
  | h + 1, h' + 1, _, _, _, .bnd n, q, _, _ => q
  | h + 1, h' + 1, _, _, _, .var n, q, _, l => ⟨Nat.le_trans l q.1, q.2⟩
  | h + 1, h' + 1, _, _, _, .mad f ps, q, l, l2 => ⟨q.1, fun p hp => okN_le (q.2 p hp) (by omega) l2⟩
  | h + 1, h' + 1, _, _, _, .bin w k a, q, _, _ => q
  | h + 1, h' + 1, _, _, _, .bnn w k n a, q, l, l2 => ⟨q.1, okN_le q.2 (by omega) l2⟩
  | h + 1, h' + 1, _, _, _, .nod w ps, q, l, l2 => ⟨q.1, fun p hp => okN_le (q.2 p hp) (by omega) l2⟩
section
variable {ns ks : List Str}
/-- terms alone: no all, no some -/
def tm : Nat → T → Prop
  | 0, _ => False
  | _ + 1, .nam x k => G x ∧ G k
  | h + 1, .mad f ps => (ps.length ≤ 3 ∧ G f) ∧ ∀ p ∈ ps, tm h p
  | _ + 1, _ => False
theorem tm_le : ∀ {h h' : Nat} {t : T}, tm h t → h ≤ h' → tm h' t
  | 0, _, _, x, _ => x.elim
  | h + 1, 0, _, _, l => absurd l (by omega)
  | h + 1, h' + 1, .nam x k, q, _ => q
  | h + 1, h' + 1, .bnd n, q, _ => q
  | h + 1, h' + 1, .var n, q, _ => q
  | h + 1, h' + 1, .mad f ps, q, l => ⟨q.1, fun p hp => tm_le (q.2 p hp) (by omega)⟩
  | h + 1, h' + 1, .bin w k a, q, _ => q
  | h + 1, h' + 1, .bnn _ _ _ _, q, _ => q
  | h + 1, h' + 1, .nod w ps, q, _ => q
theorem un_tm : ∀ {h h' j : Nat} {t : T}, tm h t → h ≤ h' → un h' j t = t
  | 0, _, _, _, x, _ => x.elim
  | h + 1, 0, _, _, _, l => absurd l (by omega)
  | h + 1, h' + 1, _, .nam x k, q, _ => rfl
  | h + 1, h' + 1, _, .bnd n, q, _ => rfl
  | h + 1, h' + 1, _, .var n, q, _ => q.elim
  | h + 1, h' + 1, j, .mad f ps, q, l => by
    have e : ps.map (un h' j) = ps.map id := List.map_congr_left fun p hp => un_tm (q.2 p hp) (by omega)
    show T.mad f (ps.map (un h' j)) = _
    rw [e, List.map_id]
  | h + 1, h' + 1, _, .bin w k a, q, _ => rfl
  | h + 1, h' + 1, _, .bnn _ _ _ _, q, _ => q.elim
  | h + 1, h' + 1, _, .nod w ps, q, _ => q.elim
theorem okN_tm : ∀ {h lo j : Nat} {t : T}, tm h t → okN h lo j t
  | 0, _, _, _, x => x.elim
  | h + 1, _, _, .nam x k, q => q
  | h + 1, _, _, .bnd n, q => q.elim
  | h + 1, _, _, .var n, q => q.elim
  | h + 1, _, _, .mad f ps, q => ⟨q.1, fun p hp => okN_tm (q.2 p hp)⟩
  | h + 1, _, _, .bin w k a, q => q.elim
  | h + 1, _, _, .bnn _ _ _ _, q => q.elim
  | h + 1, _, _, .nod w ps, q => q.elim
/-- the named tree lies as told -/
theorem okN_nm : ∀ {h j : Nat} {t : T}, ok ns ks h (j + 1) t → okN h 0 j (nm h j t)
  | 0, _, _, x => x.elim
  | h + 1, _, .nam x k, q => ⟨q.1.2, q.2.2⟩
  | h + 1, j, .bnd n, q => ⟨Nat.zero_le _, Nat.sub_le _ _⟩
  | h + 1, _, .var n, q => q.elim
  | h + 1, j, .mad f ps, q => ⟨by rw [List.length_map]; exact q.1, fun p hp => by
    obtain ⟨p', hp', e⟩ := List.mem_map.mp hp
    rw [← e]
    exact okN_nm (q.2 p' hp')⟩
  | h + 1, j, .bin w k a, q => ⟨⟨rfl, q.1.2⟩, okN_nm q.2⟩
  | h + 1, _, .bnn _ _ _ _, q => q.elim
  | h + 1, j, .nod w ps, q => ⟨by rw [List.length_map]; exact q.1, fun p hp => by
    obtain ⟨p', hp', e⟩ := List.mem_map.mp hp
    rw [← e]
    exact okN_nm (q.2 p' hp')⟩
/-- .. of a saying in which nothing is meant outside: from 1 on -/
theorem okN_nm1 : ∀ {h j : Nat} {t : T}, ok ns ks h j t → okN h 1 j (nm h j t)
  | 0, _, _, x => x.elim
  | h + 1, _, .nam x k, q => ⟨q.1.2, q.2.2⟩
  | h + 1, j, .bnd n, q => ⟨(by have : n < j := q; omega), Nat.sub_le _ _⟩
  | h + 1, _, .var n, q => q.elim
  | h + 1, j, .mad f ps, q => ⟨by rw [List.length_map]; exact q.1, fun p hp => by
    obtain ⟨p', hp', e⟩ := List.mem_map.mp hp
    rw [← e]
    exact okN_nm1 (q.2 p' hp')⟩
  | h + 1, j, .bin w k a, q => ⟨⟨rfl, q.1.2⟩, okN_nm1 q.2⟩
  | h + 1, _, .bnn _ _ _ _, q => q.elim
  | h + 1, j, .nod w ps, q => ⟨by rw [List.length_map]; exact q.1, fun p hp => by
    obtain ⟨p', hp', e⟩ := List.mem_map.mp hp
    rw [← e]
    exact okN_nm1 (q.2 p' hp')⟩
/-- exchanging var 0 for a term -/
theorem okN_exV {c : Nat} {term : T} (ht : tm c term) : ∀ {h j : Nat} {t : T}, okN h 0 j t → okN (h + c) 1 j (ex (isV 0) term h t)
  | 0, _, _, x => x.elim
  | h + 1, _, .nam x k, q => by
    rw [show h + 1 + c = (h + c) + 1 by omega]
    exact q
  | h + 1, j, .bnd n, q => q.elim
  | h + 1, j, .var n, q => by
    show okN _ 1 j (if isV 0 (T.var n) = true then term else T.var n)
    by_cases e : n = 0
    · rw [if_pos (by simp [isV, e])]
      exact okN_le (okN_tm ht) (by omega) (Nat.le_refl _)
    · rw [if_neg (by simp [isV, e]), show h + 1 + c = (h + c) + 1 by omega]
      exact ⟨by omega, q.2⟩
  | h + 1, j, .mad f ps, q => by
    rw [show h + 1 + c = (h + c) + 1 by omega]
    exact ⟨by rw [List.length_map]; exact q.1, fun p hp => by
      obtain ⟨p', hp', e⟩ := List.mem_map.mp hp
      rw [← e]
      exact okN_exV ht (q.2 p' hp')⟩
  | h + 1, j, .bin w k a, q => q.elim
  | h + 1, j, .bnn w k n a, q => by
    rw [show h + 1 + c = (h + c) + 1 by omega]
    exact ⟨q.1, okN_exV ht q.2⟩
  | h + 1, j, .nod w ps, q => by
    rw [show h + 1 + c = (h + c) + 1 by omega]
    exact ⟨by rw [List.length_map]; exact q.1, fun p hp => by
      obtain ⟨p', hp', e⟩ := List.mem_map.mp hp
      rw [← e]
      exact okN_exV ht (q.2 p' hp')⟩
/-- exchanging a name for what lies as told -/
theorem okN_exN {c lo : Nat} {x k : Str} {new : T} (hn : ∀ j, okN c lo j new) (hc : 1 ≤ c) : ∀ {h j : Nat} {t : T}, okN h lo j t → okN (h + c) lo j (ex (isN x k) new h t)
  | 0, _, _, z => z.elim
  | h + 1, j, .nam y i, q => by
    show okN _ lo j (if isN x k (T.nam y i) = true then new else T.nam y i)
    by_cases e : y = x ∧ i = k
    · rw [if_pos (by simp [isN, e])]
      exact okN_le (hn j) (by omega) (Nat.le_refl _)
    · rw [if_neg (by simp [isN, e]), show h + 1 + c = (h + c) + 1 by omega]
      exact q
  | h + 1, j, .bnd n, q => q.elim
  | h + 1, j, .var n, q => by
    rw [show h + 1 + c = (h + c) + 1 by omega]
    exact q
  | h + 1, j, .mad f ps, q => by
    rw [show h + 1 + c = (h + c) + 1 by omega]
    exact ⟨by rw [List.length_map]; exact q.1, fun p hp => by
      obtain ⟨p', hp', e⟩ := List.mem_map.mp hp
      rw [← e]
      exact okN_exN hn hc (q.2 p' hp')⟩
  | h + 1, j, .bin w k a, q => q.elim
  | h + 1, j, .bnn w k n a, q => by
    rw [show h + 1 + c = (h + c) + 1 by omega]
    exact ⟨q.1, okN_exN hn hc q.2⟩
  | h + 1, j, .nod w ps, q => by
    rw [show h + 1 + c = (h + c) + 1 by omega]
    exact ⟨by rw [List.length_map]; exact q.1, fun p hp => by
      obtain ⟨p', hp', e⟩ := List.mem_map.mp hp
      rw [← e]
      exact okN_exN hn hc (q.2 p' hp')⟩
/-! ### the three are one -/
theorem open_eq {c : Nat} {term : T} (ht : tm c term) : ∀ {h j : Nat} {t : T}, ok ns ks h (j + 1) t → un (h + c) j (ex (isV 0) term h (nm h j t)) = chg (gOpen term) h j t
  | 0, _, _, x => x.elim
  | h + 1, j, .nam x k, q => by rw [show h + 1 + c = (h + c) + 1 by omega] <;> rfl
  | h + 1, j, .bnd n, q => by
    have q : n < j + 1 := q
    show un _ j (if isV 0 (T.var (j - n)) = true then term else T.var (j - n)) = if n = j then term else T.bnd n
    by_cases e : n = j
    · rw [if_pos (by simp [isV, e]), if_pos e]
      exact un_tm ht (by omega)
    · rw [if_neg (by simp [isV]; omega), if_neg e, show h + 1 + c = (h + c) + 1 by omega]
      show T.bnd (j - (j - n)) = _
      rw [show j - (j - n) = n by omega]
  | h + 1, _, .var n, q => q.elim
  | h + 1, j, .mad f ps, q => by
    rw [show h + 1 + c = (h + c) + 1 by omega]
    show T.mad f (((ps.map (nm h j)).map (ex (isV 0) term h)).map (un (h + c) j)) = T.mad f (ps.map (chg (gOpen term) h j))
    rw [List.map_map, List.map_map]
    exact congrArg _ (List.map_congr_left fun p hp => open_eq ht (q.2 p hp))
  | h + 1, j, .bin w k a, q => by
    rw [show h + 1 + c = (h + c) + 1 by omega]
    exact congrArg (T.bin w k) (open_eq ht q.2)
  | h + 1, _, .bnn _ _ _ _, q => q.elim
  | h + 1, j, .nod w ps, q => by
    rw [show h + 1 + c = (h + c) + 1 by omega]
    show T.nod w (((ps.map (nm h j)).map (ex (isV 0) term h)).map (un (h + c) j)) = T.nod w (ps.map (chg (gOpen term) h j))
    rw [List.map_map, List.map_map]
    exact congrArg _ (List.map_congr_left fun p hp => open_eq ht (q.2 p hp))
theorem shut_eq {c : Nat} {x k : Str} : ∀ {h j : Nat} {t : T}, ok ns ks h j t → un (h + c) j (ex (isN x k) (.var 0) h (nm h j t)) = chg (gShut x k) h j t
  | 0, _, _, z => z.elim
  | h + 1, j, .nam y i, q => by
    rw [show h + 1 + c = (h + c) + 1 by omega]
    show un _ j (if isN x k (T.nam y i) = true then T.var 0 else T.nam y i) = if y = x ∧ i = k then T.bnd j else T.nam y i
    by_cases e : y = x ∧ i = k
    · rw [if_pos (by simp [isN, e]), if_pos e] <;> rfl
    · rw [if_neg (by simp [isN, e]), if_neg e] <;> rfl
  | h + 1, j, .bnd n, q => by
    have q : n < j := q
    rw [show h + 1 + c = (h + c) + 1 by omega]
    show T.bnd (j - (j - n)) = T.bnd n
    rw [show j - (j - n) = n by omega]
  | h + 1, _, .var n, q => q.elim
  | h + 1, j, .mad f ps, q => by
    rw [show h + 1 + c = (h + c) + 1 by omega]
    show T.mad f (((ps.map (nm h j)).map (ex (isN x k) (.var 0) h)).map (un (h + c) j)) = T.mad f (ps.map (chg (gShut x k) h j))
    rw [List.map_map, List.map_map]
    exact congrArg _ (List.map_congr_left fun p hp => shut_eq (q.2 p hp))
  | h + 1, j, .bin w k a, q => by
    rw [show h + 1 + c = (h + c) + 1 by omega]
    exact congrArg (T.bin w k) (shut_eq q.2)
  | h + 1, _, .bnn _ _ _ _, q => q.elim
  | h + 1, j, .nod w ps, q => by
    rw [show h + 1 + c = (h + c) + 1 by omega]
    show T.nod w (((ps.map (nm h j)).map (ex (isN x k) (.var 0) h)).map (un (h + c) j)) = T.nod w (ps.map (chg (gShut x k) h j))
    rw [List.map_map, List.map_map]
    exact congrArg _ (List.map_congr_left fun p hp => shut_eq (q.2 p hp))
theorem put_eq {c : Nat} {x k : Str} {term : T} (ht : tm c term) : ∀ {h j : Nat} {t : T}, ok ns ks h j t → un (h + c) j (ex (isN x k) term h (nm h j t)) = chg (gPut x k term) h j t
  | 0, _, _, z => z.elim
  | h + 1, j, .nam y i, q => by
    show un _ j (if isN x k (T.nam y i) = true then term else T.nam y i) = if y = x ∧ i = k then term else T.nam y i
    by_cases e : y = x ∧ i = k
    · rw [if_pos (by simp [isN, e]), if_pos e]
      exact un_tm ht (by omega)
    · rw [if_neg (by simp [isN, e]), if_neg e, show h + 1 + c = (h + c) + 1 by omega] <;> rfl
  | h + 1, j, .bnd n, q => by
    have q : n < j := q
    rw [show h + 1 + c = (h + c) + 1 by omega]
    show T.bnd (j - (j - n)) = T.bnd n
    rw [show j - (j - n) = n by omega]
  | h + 1, _, .var n, q => q.elim
  | h + 1, j, .mad f ps, q => by
    rw [show h + 1 + c = (h + c) + 1 by omega]
    show T.mad f (((ps.map (nm h j)).map (ex (isN x k) term h)).map (un (h + c) j)) = T.mad f (ps.map (chg (gPut x k term) h j))
    rw [List.map_map, List.map_map]
    exact congrArg _ (List.map_congr_left fun p hp => put_eq ht (q.2 p hp))
  | h + 1, j, .bin w k a, q => by
    rw [show h + 1 + c = (h + c) + 1 by omega]
    exact congrArg (T.bin w k) (put_eq ht q.2)
  | h + 1, _, .bnn _ _ _ _, q => q.elim
  | h + 1, j, .nod w ps, q => by
    rw [show h + 1 + c = (h + c) + 1 by omega]
    show T.nod w (((ps.map (nm h j)).map (ex (isN x k) term h)).map (un (h + c) j)) = T.nod w (ps.map (chg (gPut x k term) h j))
    rw [List.map_map, List.map_map]
    exact congrArg _ (List.map_congr_left fun p hp => put_eq ht (q.2 p hp))
/-- opened by a strange name, and shut by it -/
theorem there_back {x k : Str} (hx : x ∉ ns) : ∀ {h j : Nat} {t : T}, ok ns ks h (j + 1) t → chg (gShut x k) h j (chg (gOpen (.nam x k)) h j t) = t
  | 0, _, _, z => z.elim
  | h + 1, j, .nam y i, q => by
    show (if y = x ∧ i = k then T.bnd j else T.nam y i) = T.nam y i
    rw [if_neg]
    rintro ⟨e, _⟩
    exact hx (e ▸ q.1.1)
  | h + 1, j, .bnd n, q => by
    show chg (gShut x k) (h + 1) j (if n = j then T.nam x k else T.bnd n) = T.bnd n
    by_cases e : n = j
    · rw [if_pos e, e]
      show (if x = x ∧ k = k then T.bnd j else T.nam x k) = T.bnd j
      rw [if_pos ⟨rfl, rfl⟩]
    · rw [if_neg e] <;> rfl
  | h + 1, _, .var n, q => q.elim
  | h + 1, j, .mad f ps, q => by
    show T.mad f ((ps.map (chg (gOpen (.nam x k)) h j)).map (chg (gShut x k) h j)) = T.mad f ps
    rw [List.map_map]
    have e : ps.map (chg (gShut x k) h j ∘ chg (gOpen (.nam x k)) h j) = ps.map id := List.map_congr_left fun p hp => there_back hx (q.2 p hp)
    rw [e, List.map_id]
  | h + 1, j, .bin w kk a, q => congrArg (T.bin w kk) (there_back hx q.2)
  | h + 1, _, .bnn _ _ _ _, q => q.elim
  | h + 1, j, .nod w ps, q => by
    show T.nod w ((ps.map (chg (gOpen (.nam x k)) h j)).map (chg (gShut x k) h j)) = T.nod w ps
    rw [List.map_map]
    have e : ps.map (chg (gShut x k) h j ∘ chg (gOpen (.nam x k)) h j) = ps.map id := List.map_congr_left fun p hp => there_back hx (q.2 p hp)
    rw [e, List.map_id]
/-- what is opened lies as told -/
theorem ok_open {c : Nat} {term : T} (ht : ok ns ks c 0 term) (hc : 1 ≤ c) : ∀ {h j : Nat} {t : T}, ok ns ks h (j + 1) t → ok ns ks (h + c) j (chg (gOpen term) h j t)
  | 0, _, _, z => z.elim
  | h + 1, j, .nam y i, q => by
    rw [show h + 1 + c = (h + c) + 1 by omega]
    exact q
  | h + 1, j, .bnd n, q => by
    have q : n < j + 1 := q
    show ok ns ks _ j (if n = j then term else T.bnd n)
    by_cases e : n = j
    · rw [if_pos e]
      exact ok_le ht (by omega) (Nat.zero_le _)
    · rw [if_neg e, show h + 1 + c = (h + c) + 1 by omega]
      show n < j
      omega
  | h + 1, _, .var n, q => q.elim
  | h + 1, j, .mad f ps, q => by
    rw [show h + 1 + c = (h + c) + 1 by omega]
    exact ⟨by rw [List.length_map]; exact q.1, fun p hp => by
      obtain ⟨p', hp', e⟩ := List.mem_map.mp hp
      rw [← e]
      exact ok_open ht hc (q.2 p' hp')⟩
  | h + 1, j, .bin w kk a, q => by
    rw [show h + 1 + c = (h + c) + 1 by omega]
    exact ⟨q.1, ok_open ht hc q.2⟩
  | h + 1, _, .bnn _ _ _ _, q => q.elim
  | h + 1, j, .nod w ps, q => by
    rw [show h + 1 + c = (h + c) + 1 by omega]
    exact ⟨by rw [List.length_map]; exact q.1, fun p hp => by
      obtain ⟨p', hp', e⟩ := List.mem_map.mp hp
      rw [← e]
      exact ok_open ht hc (q.2 p' hp')⟩
/-! ### free names, from the left -/
def fr : Nat → T → List (Str × Str)
  | 0, _ => []
  | _ + 1, .nam x k => [(x, k)]
  | h + 1, .mad _ ps => ps.flatMap (fr h)
  | h + 1, .bin _ _ a => fr h a
  | h + 1, .nod _ ps => ps.flatMap (fr h)
  | _ + 1, _ => []
theorem fr_mem : ∀ {h m : Nat} {t : T}, ok ns ks h m t → ∀ p ∈ fr h t, p.1 ∈ ns ∧ p.2 ∈ ks
  | 0, _, _, z, _, _ => z.elim
  | h + 1, m, .nam x k, q, p, hp => by
    rw [List.mem_singleton.mp (show p ∈ [(x, k)] from hp)]
    exact ⟨q.1.1, q.2.1⟩
  | h + 1, m, .bnd n, q, p, hp => nomatch (show p ∈ ([] : List (Str × Str)) from hp)
  | h + 1, m, .var n, q, p, hp => q.elim
  | h + 1, m, .mad f ps, q, p, hp => by
    obtain ⟨t, ht, hp⟩ := List.mem_flatMap.mp hp
    exact fr_mem (q.2 t ht) p hp
  | h + 1, m, .bin w k a, q, p, hp => fr_mem q.2 p hp
  | h + 1, m, .bnn _ _ _ _, q, p, hp => q.elim
  | h + 1, m, .nod w ps, q, p, hp => by
    obtain ⟨t, ht, hp⟩ := List.mem_flatMap.mp hp
    exact fr_mem (q.2 t ht) p hp
theorem flat_len {α β : Type} (f : α → List β) (b : Nat) : ∀ (l : List α), (∀ x ∈ l, (f x).length ≤ b) → (l.flatMap f).length ≤ l.length * b
  | [], _ => by simp
  | x :: l, h => by
    rw [List.flatMap_cons, List.length_append, List.length_cons, Nat.add_mul, Nat.one_mul]
    have h1 := h x List.mem_cons_self
    have h2 := flat_len f b l fun y hy => h y (List.mem_cons_of_mem _ hy)
    omega
theorem fr_len : ∀ {h m : Nat} {t : T}, ok ns ks h m t → (fr h t).length ≤ 3 ^ h
  | 0, _, _, z => z.elim
  | h + 1, m, .nam x k, q => (show 3 ^ 0 ≤ 3 ^ (h + 1) from Nat.pow_le_pow_right (by decide) (Nat.zero_le (h + 1)))
  | h + 1, m, .bnd n, q => Nat.zero_le _
  | h + 1, m, .var n, q => q.elim
  | h + 1, m, .mad f ps, q => by
    refine Nat.le_trans (flat_len (fr h) (3 ^ h) ps fun t ht => fr_len (q.2 t ht)) ?_
    rw [Nat.pow_succ, Nat.mul_comm]
    exact Nat.mul_le_mul_left _ q.1.1
  | h + 1, m, .bin w k a, q => Nat.le_trans (fr_len (h := h) (m := m + 1) q.2) (Nat.pow_le_pow_right (by decide) (Nat.le_succ h))
  | h + 1, m, .bnn _ _ _ _, q => q.elim
  | h + 1, m, .nod w ps, q => by
    refine Nat.le_trans (flat_len (fr h) (3 ^ h) ps fun t ht => fr_len (q.2 t ht)) ?_
    rw [Nat.pow_succ, Nat.mul_comm]
    exact Nat.mul_le_mul_left _ (Nat.le_trans q.1 (by decide))
end
end KM

/-! KD1: trees in the heap. -/
namespace KD
open PySem PySem.Spec PyProof.Rows L2 LamX NdefX KM
def top (i : Nat) : Stmt := PySem.Challenge.pw_goalsmith_k31_sayings_told.main.body.getD i (.Pass ⟨0, 0, 0, 0⟩)
def _root_.KM.Bw.s : Bw → Str
  | .al => "all"
  | .so => "some"
def _root_.KM.Nw.s : Nw → Str
  | .same => "same"
  | .no => "no"
  | .nt => "not"
  | .an => "and"
  | .orr => "or"
  | .sw => "so"
mutual
inductive At (H : Hp) : V → T → Prop
  | nam {a : Addr} {x k : Str} : H a = some (.tup [.str "name", .str x, .str k]) → At H (.ref a) (.nam x k)
  | bnd {a : Addr} {n : Nat} : H a = some (.tup [.str "bound", .int n]) → At H (.ref a) (.bnd n)
  | var {a : Addr} {n : Nat} : H a = some (.tup [.str "thing", .int n]) → At H (.ref a) (.var n)
  | mad {a b : Addr} {f : Str} {vs : List V} {ps : List T} : H a = some (.tup [.str "made", .str f, .ref b]) → H b = some (.tup vs) → AtL H vs ps → At H (.ref a) (.mad f ps)
  | bin {a : Addr} {w : Bw} {k : Str} {v : V} {t : T} : H a = some (.tup [.str w.s, .str k, v]) → At H v t → At H (.ref a) (.bin w k t)
  | bnn {a : Addr} {w : Bw} {k : Str} {n : Nat} {v : V} {t : T} : H a = some (.tup [.str w.s, .str k, .int n, v]) → At H v t → At H (.ref a) (.bnn w k n t)
  | nod {a : Addr} {w : Nw} {vs : List V} {ps : List T} : H a = some (.tup (.str w.s :: vs)) → AtL H vs ps → At H (.ref a) (.nod w ps)
inductive AtL (H : Hp) : List V → List T → Prop
  | nil : AtL H [] []
  | cons {v : V} {vs : List V} {t : T} {ts : List T} : At H v t → AtL H vs ts → AtL H (v :: vs) (t :: ts)
end
/-- tuples stay -/
def TupS (H H' : Hp) : Prop := ∀ b xs, H b = some (.tup xs) → H' b = some (.tup xs)
mutual
theorem At.mono {H H' : Hp} (e : TupS H H') : ∀ {v : V} {t : T}, At H v t → At H' v t
  | _, _, .nam h => .nam (e _ _ h)
  | _, _, .bnd h => .bnd (e _ _ h)
  | _, _, .var h => .var (e _ _ h)
  | _, _, .mad h h2 h3 => .mad (e _ _ h) (e _ _ h2) (AtL.mono e h3)
  | _, _, .bin h h2 => .bin (e _ _ h) (At.mono e h2)
  | _, _, .bnn h h2 => .bnn (e _ _ h) (At.mono e h2)
  | _, _, .nod h h2 => .nod (e _ _ h) (AtL.mono e h2)
theorem AtL.mono {H H' : Hp} (e : TupS H H') : ∀ {vs : List V} {ts : List T}, AtL H vs ts → AtL H' vs ts
  | _, _, .nil => .nil
  | _, _, .cons h h2 => .cons (At.mono e h) (AtL.mono e h2)
end
theorem TupS.same {H H' : Hp} (e : Same H H') : TupS H H' := fun b xs h => e b _ h
theorem TupS.refl (H : Hp) : TupS H H := fun _ _ h => h
theorem TupS.trans {H H1 H2 : Hp} (a : TupS H H1) (b : TupS H1 H2) : TupS H H2 := fun c xs h => b c xs (a c xs h)
theorem TupS.upd {H : Hp} {p : Addr} {o : HO} (h : H p = none) : TupS H (upd H p o) := fun b xs e => by rw [upd_ne (ne_of_none e h)]; exact e
theorem TupS.lst {H : Hp} {p : Addr} {xs : List V} {o : HO} (h : H p = some (.lst xs)) : TupS H (L2.upd H p o) := fun b ys e => by rw [upd_ne (ne_of e h (by intro z; cases z))]; exact e
theorem AtL.length {H : Hp} : ∀ {vs : List V} {ts : List T}, AtL H vs ts → vs.length = ts.length
  | _, _, .nil => rfl
  | _, _, .cons _ h => congrArg (· + 1) (AtL.length h)
theorem AtL.get {H : Hp} : ∀ {vs : List V} {ts : List T} {i : Nat} {v : V}, AtL H vs ts → vs[i]? = some v → ∃ t, ts[i]? = some t ∧ At H v t
  | _, _, _, _, .nil, e => by simp at e
  | _, _, 0, _, .cons h _, e => by simp at e; subst e; exact ⟨_, rfl, h⟩
  | _, _, i + 1, _, .cons _ h, e => by
    obtain ⟨t, h1, h2⟩ := AtL.get (i := i) h (by simpa using e)
    exact ⟨t, by simpa using h1, h2⟩
theorem AtL.snoc {H : Hp} {v : V} {t : T} (hv : At H v t) : ∀ {vs : List V} {ts : List T}, AtL H vs ts → AtL H (vs ++ [v]) (ts ++ [t])
  | _, _, .nil => .cons hv .nil
  | _, _, .cons h h2 => .cons h (AtL.snoc hv h2)
theorem Same.upd {H : Hp} {p : Addr} {o : HO} (h : H p = none) : Same H (upd H p o) := fun b u e => by rw [upd_ne (ne_of_none e h)]; exact e
/-! ### as data -/
def toD : Nat → T → PyData
  | 0, _ => .none
  | _ + 1, .nam x k => .tuple [.str "name", .str x, .str k]
  | _ + 1, .bnd n => .tuple [.str "bound", .int n]
  | _ + 1, .var n => .tuple [.str "thing", .int n]
  | h + 1, .mad f ps => .tuple [.str "made", .str f, .tuple (ps.map (toD h))]
  | h + 1, .bin w k a => .tuple [.str w.s, .str k, toD h a]
  | h + 1, .bnn w k n a => .tuple [.str w.s, .str k, .int n, toD h a]
  | h + 1, .nod w ps => .tuple (.str w.s :: ps.map (toD h))
/-- at most h high, few parts -/
def hi : Nat → T → Prop
  | 0, _ => False
  | h + 1, .mad f ps => (ps.length ≤ 3 ∧ G f) ∧ ∀ p ∈ ps, hi h p
  | h + 1, .bin _ k a => G k ∧ hi h a
  | h + 1, .bnn _ k _ a => G k ∧ hi h a
  | h + 1, .nod _ ps => ps.length ≤ 2 ∧ ∀ p ∈ ps, hi h p
  | _ + 1, .nam x k => G x ∧ G k
  | _ + 1, _ => True
theorem hi_ok {ns ks : List Str} : ∀ {h m : Nat} {t : T}, ok ns ks h m t → hi h t
  | 0, _, _, x => x
  | h + 1, _, .nam x k, q => ⟨q.1.2, q.2.2⟩
  | h + 1, _, .bnd n, q => trivial
  | h + 1, _, .var n, q => trivial
  | h + 1, _, .mad f ps, q => ⟨q.1, fun p hp => hi_ok (q.2 p hp)⟩
  | h + 1, _, .bin w k a, q => ⟨q.1.2, hi_ok (h := h) q.2⟩
  | h + 1, _, .bnn w k n a, q => q.elim
  | h + 1, _, .nod w ps, q => ⟨q.1, fun p hp => hi_ok (q.2 p hp)⟩
theorem hi_okN : ∀ {h lo j : Nat} {t : T}, okN h lo j t → hi h t
  | 0, _, _, _, x => x
  | h + 1, _, _, .nam x k, q => q
  | h + 1, _, _, .bnd n, q => trivial
  | h + 1, _, _, .var n, q => trivial
  | h + 1, _, _, .mad f ps, q => ⟨q.1, fun p hp => hi_okN (q.2 p hp)⟩
  | h + 1, _, _, .bin w k a, q => q.elim
  | h + 1, _, _, .bnn w k n a, q => ⟨q.1.2, hi_okN (h := h) q.2⟩
  | h + 1, _, _, .nod w ps, q => ⟨q.1, fun p hp => hi_okN (q.2 p hp)⟩
theorem hi_le : ∀ {h h' : Nat} {t : T}, hi h t → h ≤ h' → hi h' t
  | 0, _, _, x, _ => x.elim
  | h + 1, 0, _, _, l => absurd l (by omega)
  | h + 1, h' + 1, .nam x k, q, _ => q
  | h + 1, h' + 1, .bnd n, q, _ => trivial
  | h + 1, h' + 1, .var n, q, _ => trivial
  | h + 1, h' + 1, .mad f ps, q, l => ⟨q.1, fun p hp => hi_le (q.2 p hp) (by omega)⟩
  | h + 1, h' + 1, .bin w k a, q, l => ⟨q.1, hi_le (h := h) (h' := h') q.2 (by omega)⟩
  | h + 1, h' + 1, .bnn w k n a, q, l => ⟨q.1, hi_le (h := h) (h' := h') q.2 (by omega)⟩
  | h + 1, h' + 1, .nod w ps, q, l => ⟨q.1, fun p hp => hi_le (q.2 p hp) (by omega)⟩
section
variable {K : PySem.W.Frag} {H : Hp}
mutual
theorem At.dp : ∀ {h : Nat} {v : V} {t : T}, At H v t → hi h t → Dp K H v (toD h t)
  | 0, _, _, _, z => z.elim
  | h + 1, _, _, .nam e, _ => .tup (SqT.of e) (.cons (.str _) (.cons (.str _) (.cons (.str _) .nil)))
  | h + 1, _, _, .bnd e, _ => .tup (SqT.of e) (.cons (.str _) (.cons (.int _) .nil))
  | h + 1, _, _, .var e, _ => .tup (SqT.of e) (.cons (.str _) (.cons (.int _) .nil))
  | h + 1, _, _, .mad e e2 l, z => .tup (SqT.of e) (.cons (.str _) (.cons (.str _) (.cons (.tup (SqT.of e2) (AtL.dp l z.2)) .nil)))
  | h + 1, _, _, .bin e l, z => .tup (SqT.of e) (.cons (.str _) (.cons (.str _) (.cons (At.dp l z.2) .nil)))
  | h + 1, _, _, .bnn e l, z => .tup (SqT.of e) (.cons (.str _) (.cons (.str _) (.cons (.int _) (.cons (At.dp l z.2) .nil))))
  | h + 1, _, _, .nod e l, z => .tup (SqT.of e) (.cons (.str _) (AtL.dp l z.2))
theorem AtL.dp : ∀ {h : Nat} {vs : List V} {ts : List T}, AtL H vs ts → (∀ p ∈ ts, hi h p) → DpAll K H vs (ts.map (toD h))
  | _, _, _, .nil, _ => .nil
  | h, _, _, .cons a l, z => .cons (At.dp a (z _ List.mem_cons_self)) (AtL.dp l fun p hp => z p (List.mem_cons_of_mem _ hp))
end
end
end KD

/-! KD2: trees as data: their shape, ==. -/
namespace KD
open PySem PySem.Spec PyProof.Rows L2 LamX NdefX KM
open PySem.PyData
theorem G.strOk {x : Str} (g : G x) : strOk x = true := by
  unfold PySem.PyData.strOk
  rw [Array.all_eq_true_iff_forall_mem]
  intro c hc
  have := (g.2 c (by simpa using hc)).2
  exact decide_eq_true (by omega)
theorem canLay_str (x : Str) (h : strOk x = true) : (PyData.str x).canLay0 = true := by simp only [canLay0]; exact h
theorem strOk_lit : strOk "name" = true ∧ strOk "bound" = true ∧ strOk "thing" = true ∧ strOk "made" = true := by decide +kernel
theorem strOk_bw (w : Bw) : strOk w.s = true := by cases w <;> decide +kernel
theorem strOk_nw (w : Nw) : strOk w.s = true := by cases w <;> decide +kernel
theorem canLayAll_map {f : T → PyData} : ∀ (ps : List T), (∀ p ∈ ps, (f p).canLay0 = true) → canLayAll0 (ps.map f) = true
  | [], _ => by simp only [List.map_nil, canLayAll0]
  | p :: ps, h => by
    simp only [List.map_cons, canLayAll0, Bool.and_eq_true]
    exact ⟨h p List.mem_cons_self, canLayAll_map ps fun q hq => h q (List.mem_cons_of_mem _ hq)⟩
theorem canLay_toD : ∀ {h : Nat} {t : T}, hi h t → (toD h t).canLay0 = true
  | 0, _, z => z.elim
  | h + 1, .nam x k, z => by
    simp only [toD, canLay0, canLayAll0, Bool.and_eq_true]
    exact ⟨strOk_lit.1, G.strOk z.1, G.strOk z.2, trivial⟩
  | h + 1, .bnd n, z => by
    simp only [toD, canLay0, canLayAll0, Bool.and_eq_true]
    exact ⟨strOk_lit.2.1, trivial, trivial⟩
  | h + 1, .var n, z => by
    simp only [toD, canLay0, canLayAll0, Bool.and_eq_true]
    exact ⟨strOk_lit.2.2.1, trivial, trivial⟩
  | h + 1, .mad f ps, z => by
    simp only [toD, canLay0, canLayAll0, Bool.and_eq_true]
    exact ⟨strOk_lit.2.2.2, G.strOk z.1.2, canLayAll_map ps fun p hp => canLay_toD (z.2 p hp), trivial⟩
  | h + 1, .bin w k a, z => by
    simp only [toD, canLay0, canLayAll0, Bool.and_eq_true]
    exact ⟨strOk_bw w, G.strOk z.1, canLay_toD z.2, trivial⟩
  | h + 1, .bnn w k n a, z => by
    simp only [toD, canLay0, canLayAll0, Bool.and_eq_true]
    exact ⟨strOk_bw w, G.strOk z.1, trivial, canLay_toD z.2, trivial⟩
  | h + 1, .nod w ps, z => by
    simp only [toD, canLay0, canLayAll0, Bool.and_eq_true]
    exact ⟨strOk_nw w, canLayAll_map ps fun p hp => canLay_toD (z.2 p hp)⟩
theorem depthAll_map {f : T → PyData} {b : Nat} : ∀ (ps : List T), (∀ p ∈ ps, (f p).depth ≤ b) → depthAll (ps.map f) ≤ b
  | [], _ => by simp [depthAll]
  | p :: ps, h => by
    simp only [List.map_cons, depthAll]
    exact Nat.max_le.mpr ⟨h p List.mem_cons_self, depthAll_map ps fun q hq => h q (List.mem_cons_of_mem _ hq)⟩
theorem depth_toD : ∀ {h : Nat} {t : T}, hi h t → (toD h t).depth ≤ 2 * h
  | 0, _, z => z.elim
  | h + 1, .nam x k, z => by simp only [toD, depth, depthAll]; omega
  | h + 1, .bnd n, z => by simp only [toD, depth, depthAll]; omega
  | h + 1, .var n, z => by simp only [toD, depth, depthAll]; omega
  | h + 1, .mad f ps, z => by
    have q := depthAll_map (f := toD h) (b := 2 * h) ps fun p hp => depth_toD (z.2 p hp)
    simp only [toD, depth, depthAll]
    omega
  | h + 1, .bin w k a, z => by
    have q := depth_toD (h := h) z.2
    simp only [toD, depth, depthAll]
    omega
  | h + 1, .bnn w k n a, z => by
    have q := depth_toD (h := h) z.2
    simp only [toD, depth, depthAll]
    omega
  | h + 1, .nod w ps, z => by
    have q := depthAll_map (f := toD h) (b := 2 * h) ps fun p hp => depth_toD (z.2 p hp)
    simp only [toD, depth, depthAll]
    omega
theorem shaped_toD {h : Nat} {t : T} (z : hi h t) (l : h ≤ 32) : SeqAt.shaped (toD h t) = true := by
  unfold SeqAt.shaped
  rw [canLay_toD z, Bool.true_and]
  have := depth_toD z
  exact decide_eq_true (by omega)
theorem eqv_toD {h : Nat} {t : T} (z : hi h t) : PyData.eqv (toD h t) (toD h t) = true := PySem.SeqAt.eqv_refl _ (canLay_toD z)
/-- two equal trees, whatever the measure -/
theorem eqv_same {h : Nat} {t u : T} (z : hi h t) (e : t = u) : PyData.eqv (toD h t) (toD h u) = true := by rw [← e]; exact eqv_toD z
def dNam (x k : Str) : PyData := .tuple [.str "name", .str x, .str k]
def dBnd (n : Nat) : PyData := .tuple [.str "bound", .int n]
def dVar (n : Nat) : PyData := .tuple [.str "thing", .int n]
theorem beq_str (x y : Str) : (x == y) = decide (x = y) := by
  rw [Bool.eq_iff_iff]
  simp
theorem bw_ne (w : Bw) : (w.s == ("name" : Str)) = false ∧ (w.s == ("bound" : Str)) = false ∧ (w.s == ("thing" : Str)) = false := by cases w <;> decide +kernel
theorem nw_ne (w : Nw) : (w.s == ("name" : Str)) = false ∧ (w.s == ("bound" : Str)) = false ∧ (w.s == ("thing" : Str)) = false := by cases w <;> decide +kernel
theorem lit_ne : (("bound" : Str) == ("name" : Str)) = false ∧ (("thing" : Str) == ("name" : Str)) = false ∧ (("made" : Str) == ("name" : Str)) = false ∧ (("name" : Str) == ("bound" : Str)) = false ∧ (("thing" : Str) == ("bound" : Str)) = false ∧ (("made" : Str) == ("bound" : Str)) = false ∧
    (("name" : Str) == ("thing" : Str)) = false ∧ (("bound" : Str) == ("thing" : Str)) = false ∧ (("made" : Str) == ("thing" : Str)) = false := by decide +kernel
theorem eqv_nam {h : Nat} {x k : Str} : ∀ {t : T}, hi (h + 1) t → PyData.eqv (toD (h + 1) t) (dNam x k) = isN x k t
  | .nam y j, _ => by
    simp only [toD, dNam, eqv, eqvAll, isN, beq_self_eq_true, Bool.true_and, Bool.and_true, beq_str]
    rw [Bool.eq_iff_iff]
    simp
  | .bnd n, _ => by simp only [toD, dNam, eqv, eqvAll, isN, lit_ne.1, Bool.false_and]
  | .var n, _ => by simp only [toD, dNam, eqv, eqvAll, isN, lit_ne.2.1, Bool.false_and]
  | .mad f ps, _ => by simp only [toD, dNam, eqv, eqvAll, isN, lit_ne.2.2.1, Bool.false_and]
  | .bin w j a, _ => by simp only [toD, dNam, eqv, eqvAll, isN, (bw_ne w).1, Bool.false_and]
  | .bnn w j n a, _ => by simp only [toD, dNam, eqv, eqvAll, isN, (bw_ne w).1, Bool.false_and]
  | .nod w ps, _ => by simp only [toD, dNam, eqv, eqvAll, isN, (nw_ne w).1, Bool.false_and]
theorem eqv_var {h m : Nat} : ∀ {t : T}, hi (h + 1) t → PyData.eqv (toD (h + 1) t) (dVar m) = isV m t
  | .nam y j, _ => by simp only [toD, dVar, eqv, eqvAll, isV, lit_ne.2.2.2.2.2.2.1, Bool.false_and]
  | .bnd n, _ => by simp only [toD, dVar, eqv, eqvAll, isV, lit_ne.2.2.2.2.2.2.2.1, Bool.false_and]
  | .var n, _ => by
    simp only [toD, dVar, eqv, eqvAll, isV, beq_self_eq_true, Bool.true_and, Bool.and_true]
    rw [Bool.eq_iff_iff]
    simp
    try exact Int.ofNat_inj
  | .mad f ps, _ => by simp only [toD, dVar, eqv, eqvAll, isV, lit_ne.2.2.2.2.2.2.2.2, Bool.false_and]
  | .bin w j a, _ => by simp only [toD, dVar, eqv, eqvAll, isV, (bw_ne w).2.2, Bool.false_and]
  | .bnn w j n a, _ => by simp only [toD, dVar, eqv, eqvAll, isV, (bw_ne w).2.2, Bool.false_and]
  | .nod w ps, _ => by simp only [toD, dVar, eqv, eqvAll, isV, (nw_ne w).2.2, Bool.false_and]
def isB (n : Nat) : T → Bool
  | .bnd m => decide (m = n)
  | _ => false
theorem eqv_bnd {h m : Nat} : ∀ {t : T}, hi (h + 1) t → PyData.eqv (toD (h + 1) t) (dBnd m) = isB m t
  | .nam y j, _ => by simp only [toD, dBnd, eqv, eqvAll, isB, lit_ne.2.2.2.1, Bool.false_and]
  | .bnd n, _ => by
    simp only [toD, dBnd, eqv, eqvAll, isB, beq_self_eq_true, Bool.true_and, Bool.and_true]
    rw [Bool.eq_iff_iff]
    simp
    try exact Int.ofNat_inj
  | .var n, _ => by simp only [toD, dBnd, eqv, eqvAll, isB, lit_ne.2.2.2.2.1, Bool.false_and]
  | .mad f ps, _ => by simp only [toD, dBnd, eqv, eqvAll, isB, lit_ne.2.2.2.2.2.1, Bool.false_and]
  | .bin w j a, _ => by simp only [toD, dBnd, eqv, eqvAll, isB, (bw_ne w).2.1, Bool.false_and]
  | .bnn w j n a, _ => by simp only [toD, dBnd, eqv, eqvAll, isB, (bw_ne w).2.1, Bool.false_and]
  | .nod w ps, _ => by simp only [toD, dBnd, eqv, eqvAll, isB, (nw_ne w).2.1, Bool.false_and]
theorem shaped_leaf {x k : Str} (hx : G x) (hk : G k) (n : Nat) : SeqAt.shaped (dNam x k) = true ∧ SeqAt.shaped (dBnd n) = true ∧ SeqAt.shaped (dVar n) = true :=
  ⟨shaped_toD (h := 1) (t := .nam x k) ⟨hx, hk⟩ (by decide), shaped_toD (h := 1) (t := .bnd n) trivial (by decide), shaped_toD (h := 1) (t := .var n) trivial (by decide)⟩
/-! ### tuple([F(part) for part in parts]) -/
theorem map_tup {K : PySem.W.Frag} {a D : Addr} {vs : List V} {ps : List T} {H1 : Hp} {σ : L2.St} {te : TE} {i : Nat} {Qd : Hp → Prop} (φ : T → T) (hS : H1 a = some (.tup vs)) (hA : AtL H1 vs ps) (hD : H1 D = Option.none) (hl : ps.length ≤ 3)
    (he : ∀ (j : Nat) (v : V) (p : T) (H2 : Hp), ps[j]? = some p → Same H1 H2 → At H2 v p → ∀ Qe : VK, (∀ y H3, Same H2 H3 → At H3 y (φ p) → Qe y H3) → te ((wipe σ [i]).set i (some v)) H2 Qe) (hw : ∀ v : V, wipe ((wipe σ [i]).set i (some v)) [i] = wipe σ [i])
    (hd : ∀ (H2 : Hp) (ys : List V), Same H1 H2 → H2 D = some (.lst ys) → AtL H2 ys (ps.map φ) → Qd H2) :
    ∃ W : Nat → Nat → Hp → Prop, (∃ m, W 0 m (upd H1 D (.lst []))) ∧ ∀ j m H, W j m H →
      ((Itt K a).stop j H ∧ Qd H) ∨ ((Itt K a).go j H ∧ ∃ Nx : Hp → Prop, (∀ H', Nx H' → ∃ m', m' < m ∧ W (j + 1) m' H') ∧ ∀ x H', (Itt K a).yld j H x H' → gName i x (wipe σ [i]) H' fun σ2 H2 => wipe σ2 [i] = wipe σ [i] ∧ tYes σ2 H2 fun b H3 =>
        if b = true then te σ2 H3 fun y H4 => ∃ acc, H4 D = some (.lst acc) ∧ acc.length < sizeLine ∧ Nx (upd H4 D (.lst (acc ++ [y]))) else Nx H3) := by
  have hlv := hA.length
  refine lc_tup (xs := vs) (fun j H' => Same H1 H' ∧ ∃ ys, H' D = some (.lst ys) ∧ AtL H' ys ((ps.take j).map φ)) ⟨Same.upd hD, [], upd_same, .nil⟩ (fun j H' _ q => SqT.of (q.1 _ _ hS)) (fun j v H' hv q => ?_) (fun H' q => ?_)
  · obtain ⟨s1, ys, hy, hL⟩ := q
    obtain ⟨p, hp, pA⟩ := hA.get hv
    refine ⟨hw v, ?_⟩
    unfold tYes
    simp only [if_true]
    refine he j v p H' hp s1 (pA.mono (.same s1)) _ fun y H3 s3 yA => ?_
    have hy3 := s3 _ _ hy
    have hj : j < ps.length := (List.getElem?_eq_some_iff.mp hp).1
    refine ⟨ys, hy3, small1000 (by rw [hL.length, List.length_map, List.length_take]; omega), fun b o e => ?_, ys ++ [y], upd_same, ?_⟩
    · rw [upd_ne (ne_of_none e hD)]
      exact s3 _ _ (s1 _ _ e)
    · rw [List.take_succ, hp]
      show AtL _ _ (((ps.take j) ++ [p]).map φ)
      rw [List.map_append]
      exact ((hL.mono (.same s3)).snoc yA).mono (TupS.lst hy3)
  · obtain ⟨s1, ys, hy, hL⟩ := q
    rw [hlv, List.take_length] at hL
    exact hd H' ys s1 hy hL
end KD

/-! DR0: what the drawings want. -/
namespace SP
theorem nd_len {α : Type} [DecidableEq α] : ∀ (l D : List α), l.Nodup → (∀ x ∈ l, x ∈ D) → l.length ≤ D.length
  | [], _, _, _ => Nat.zero_le _
  | x :: l, D, nd, h => by
    have n2 := List.nodup_cons.mp nd
    have hx := h x List.mem_cons_self
    have z := nd_len l (D.erase x) n2.2 fun y hy => (List.mem_erase_of_ne (fun e => n2.1 (by rw [e] at hy; exact hy))).mpr (h y (List.mem_cons_of_mem _ hy))
    rw [List.length_erase_of_mem hx] at z
    have : 0 < D.length := List.length_pos_of_mem hx
    rw [List.length_cons]
    omega

end SP
namespace KD
open PySem PySem.Spec PyProof.Rows L2 LamX NdefX KM
/-- no has no parts -/
def nz : Nat → T → Prop
  | 0, _ => False
  | h + 1, .mad _ ps => ∀ p ∈ ps, nz h p
  | h + 1, .bin _ _ a => nz h a
  | h + 1, .nod w ps => (w = .no → ps = []) ∧ ∀ p ∈ ps, nz h p
  | _ + 1, _ => True
theorem nz_le : ∀ {h h' : Nat} {t : T}, nz h t → h ≤ h' → nz h' t
  | 0, _, _, x, _ => x.elim
  | h + 1, 0, _, _, l => absurd l (by omega)
  | h + 1, h' + 1, .nam x k, q, _ => trivial
  | h + 1, h' + 1, .bnd n, q, _ => trivial
  | h + 1, h' + 1, .var n, q, _ => trivial
  | h + 1, h' + 1, .mad f ps, q, l => fun p hp => nz_le (q p hp) (by omega)
  | h + 1, h' + 1, .bin w k a, q, l => nz_le (h := h) (h' := h') q (by omega)
  | h + 1, h' + 1, .bnn w k n a, q, l => trivial
  | h + 1, h' + 1, .nod w ps, q, l => ⟨q.1, fun p hp => nz_le (q.2 p hp) (by omega)⟩
def ButS (d : Addr) (H H' : Hp) : Prop := ∀ b o, b ≠ d → H b = some o → H' b = some o
theorem u64 {A : Around} {k : Nat} (hr : Room k A) : A.units + 64 < cLine := by
  have := hr.un
  omega
theorem gX : G "x" := by
  unfold G
  decide +kernel
theorem boot_isi : bootBuiltins "isinstance" = some (.builtin "isinstance") := by decide +kernel
theorem boot_setT : bootBuiltins "set" = some (.type "set") := by decide +kernel
theorem boot_listT : bootBuiltins "list" = some (.type "list") := by decide +kernel
structure TxtL (mg : Str → Option Value) : Prop where
  tuple : mg "tuple" = none
  len : mg "len" = none
  rng : mg "range" = none
  isi : mg "isinstance" = none
  list : mg "list" = none
  max : mg "max" = none
  min : mg "min" = none
  sorted : mg "sorted" = none
  set : mg "set" = none
theorem decS {x y : Str} (h : (x == y) = false) : decide (V.str x = V.str y) = false := decide_eq_false fun e => by
  injection e with e
  rw [e] at h
  simp at h
end KD

/-! KDc: _law_seed, _law_state, _law_draw. -/
namespace KD
open PySem PySem.Spec PyProof.Rows L2 LamX NdefX KM
/-- what is drawn from: two numbers, the first a small one -/
def StA (H : Hp) (p : Addr) : Prop := ∃ a b : Int, H p = some (.lst [.int a, .int b]) ∧ 0 ≤ a ∧ a < 2147483647 ∧ 0 ≤ b
theorem StA.same {H H' : Hp} {p : Addr} (h : StA H p) (e : Same H H') : StA H' p := by
  obtain ⟨a, b, h, r⟩ := h
  exact ⟨a, b, e _ _ h, r⟩
theorem StA.tupS {H H' : Hp} {p : Addr} (h : StA H p) (e : ButS p H H') : TupS H H' := by
  obtain ⟨a, b, h, _⟩ := h
  exact fun c xs hc => e c _ (ne_of hc h (by intro z; cases z)) hc
theorem ButS.refl {p : Addr} (H : Hp) : ButS p H H := fun _ _ _ h => h
theorem ButS.trans {p : Addr} {H H1 H2 : Hp} (a : ButS p H H1) (b : ButS p H1 H2) : ButS p H H2 := fun x o n h => b x o n (a x o n h)
theorem Same.but {p : Addr} {H H1 : Hp} (a : Same H H1) : ButS p H H1 := fun x o _ h => a x o h
theorem ButS.same {p : Addr} {H H1 H2 : Hp} (a : ButS p H H1) (b : Same H1 H2) : ButS p H H2 := fun x o n h => b x o (a x o n h)
theorem ButS.upd {p : Addr} {H : Hp} {o : HO} : ButS p H (upd H p o) := fun x u n h => by rw [upd_ne n]; exact h
theorem StA.mk {H : Hp} {p : Addr} {a b : Int} (h : H p = some (.lst [.int a, .int b])) (h1 : 0 ≤ a) (h2 : a < 2147483647) (h3 : 0 ≤ b) : StA H p := ⟨a, b, h, h1, h2, h3⟩
def spSeed (K : PySem.W.Frag) : Sp := fun vs H Q _ => ∃ (a : Addr) (xs : List Int), vs = [.ref a, .int 0] ∧ SqL K H a (xs.map V.int) ∧ ∀ i, Q (.int i) H
def spState : Sp := fun vs H Q _ => ∃ c : Int, vs = [.int c] ∧ ∀ p H', H p = none → Same H H' → StA H' p → Q (.ref p) H'
def spDraw : Sp := fun vs H Q _ => ∃ (p : Addr) (m : Nat), vs = [.ref p, .int m] ∧ StA H p ∧ 0 < m ∧ m < 1000000 ∧ ∀ (r : Nat) H', r < m → ButS p H H' → StA H' p → Q (.int r) H'
theorem scSeed : FnScope ["_law_script", "_law_k"] ["_law_script", "_law_k"] (defScope (top 43)) := ⟨rfl, rfl, rfl, by decide +kernel, rfl, by decide +kernel, by decide +kernel⟩
theorem scState : FnScope ["_law_cell"] ["_law_cell"] (defScope (top 44)) := ⟨rfl, rfl, rfl, by decide +kernel, rfl, by decide +kernel, by decide +kernel⟩
theorem scDraw : FnScope ["_law_state_here", "_law_many", "_law_drawn"] ["_law_state_here", "_law_many"] (defScope (top 45)) := ⟨rfl, rfl, rfl, by decide +kernel, rfl, by decide +kernel, by decide +kernel⟩
section
variable {P : Program} {w : World} {K : PySem.W.Frag} {mg : Str → Option Value} {base : Heap} {f fn fi ff fl : Addr} {fd fdn fdi fdf fdl : FuncData}
theorem ok_seed (F : Fun K "_law_seed" "_law_seed" (top 43) f fd) (X : TxtL mg) (k : Nat) : FnOk P w K mg base CX0 (1 + k) f fd ["_law_script", "_law_k"] (spSeed K) := by
  rw [show 1 + k = (0 + k) + 1 by omega]
  refine F.ok scSeed (fun vs H Q E h => ?_) (fun cdv A0 outer s H vs Q E hr hq => ?_)
  · obtain ⟨a, xs, rfl, _⟩ := h
    rfl
  obtain ⟨a, xs, rfl, ha, k⟩ := hq
  refine ⟨_, pss_cons (ps_if (pt_cmpR op_lt (pv 1) (pe_callB call_len_seq (by rfl) X.len PySem.boot_len (pa_cons (pv 0) pa_nil)) (nomark _)) (pss_one (ps_ret (pe_ix ix_list (pv 0) (pv 1) (fun _ _ => rfl)))) pss_nil)
    (pss_one (ps_ret (pe_op op_add (pe_op op_mul pe_int (pv 1)) pe_int))), ?_⟩
  refine ⟨_, rfl, _, rfl, _, _, rfl, .inl ha, _, _, rfl, rfl, _, rfl, ite2 (fun e => ?_) (fun e => ?_)⟩
  · match xs, of_decide_eq_true e, ha with
    | x :: xs, _, ha => exact ⟨_, rfl, _, rfl, _, _, _, _, rfl, rfl, ha, atI_nat (j := 0) rfl, k _⟩
  · exact ⟨_, rfl, _, _, rfl, rfl, .inl ⟨by decide, by decide⟩, _, _, rfl, rfl, k _⟩
theorem ok_state (F : Fun K "_law_state" "_law_state" (top 44) f fd) (X : TxtL mg) (k : Nat) : FnOk P w K mg base CX0 (1 + k) f fd ["_law_cell"] spState := by
  rw [show 1 + k = (0 + k) + 1 by omega]
  refine F.ok scState (fun vs H Q E h => ?_) (fun cdv A0 outer s H vs Q E hr hq => ?_)
  · obtain ⟨a, rfl, _⟩ := h
    rfl
  obtain ⟨c, rfl, k⟩ := hq
  refine ⟨_, pss_one (ps_ret (pe_lst (pa_cons (pe_op op_mod (pv 0) pe_int) (pa_cons (pe_callB (call_max2 rfl) (by rfl) X.max boot_max (pa_cons pe_int (pa_cons (pe_op op_sub (pv 0) (pe_op op_pow pe_int pe_int)) pa_nil))) pa_nil)))), ?_⟩
  refine ⟨_, rfl, _, _, rfl, rfl, by show (0 : Int) < 2147483647; decide, _, rfl, _, _, rfl, rfl, ⟨by decide, by decide, by decide⟩, _, _, rfl, rfl, _, _, rfl, by show 2 ≤ sizeLine; decide, fun p hp => ?_⟩
  refine k p _ hp (Same.upd hp) (.mk upd_same (Int.emod_nonneg _ (by decide)) (Int.emod_lt_of_pos _ (by decide)) ?_)
  split <;> omega
theorem ok_draw (F : Fun K "_law_draw" "_law_draw" (top 45) f fd) (k : Nat) : FnOk P w K mg base CX0 (1 + k) f fd ["_law_state_here", "_law_many"] spDraw := by
  rw [show 1 + k = (0 + k) + 1 by omega]
  refine F.ok scDraw (fun vs H Q E h => ?_) (fun cdv A0 outer s H vs Q E hr hq => ?_)
  · obtain ⟨p, m, rfl, _⟩ := h
    rfl
  obtain ⟨p, m, rfl, ⟨a, b, hp, a0, a1, b0⟩, m0, m1, k⟩ := hq
  refine ⟨_, pss_cons (ps_if (pt_cmpR op_gt (pe_ix ix_list (pv 0) pe_int (fun _ _ => rfl)) pe_int (nomark _))
      (pss_cons (ps_set (i := 2) scDraw.nd rfl (Or.inl rfl) (pe_op op_mod (pe_ix ix_list (pv 0) pe_int (fun _ _ => rfl)) (pv 1)))
      (pss_cons (ps_asg (pe_op op_fdiv (pe_ix ix_list (pv 0) pe_int (fun _ _ => rfl)) (pv 1)) (pg_sub (pv 0) pe_int set_list))
      (pss_one (ps_ret (pv 2))))) pss_nil)
    (pss_cons (ps_asg (pe_op op_mod (pe_op op_add (pe_op op_mul (pe_ix ix_list (pv 0) pe_int (fun _ _ => rfl)) pe_int) pe_int) pe_int) (pg_sub (pv 0) pe_int set_list))
    (pss_one (ps_ret (pe_op op_mod (pe_op op_fdiv (pe_ix ix_list (pv 0) pe_int (fun _ _ => rfl)) pe_int) (pv 1))))), ?_⟩
  have mI : (0 : Int) < (m : Int) := by omega
  refine ⟨_, rfl, _, _, _, _, rfl, rfl, SqL.of hp, rfl, _, _, rfl, rfl, _, rfl, ite2 (fun e => ?_) (fun e => ?_)⟩
  · refine ⟨_, rfl, _, _, _, _, rfl, rfl, SqL.of hp, rfl, _, rfl, _, _, rfl, rfl, mI, ?_⟩
    refine ⟨_, rfl, _, _, _, _, rfl, rfl, SqL.of hp, rfl, _, rfl, _, _, rfl, rfl, ⟨mI, by omega⟩, ?_⟩
    refine ⟨_, rfl, _, _, _, 1, rfl, rfl, hp, rfl, ?_⟩
    refine ⟨_, rfl, ?_⟩
    have h1 := Int.emod_nonneg b (show (m : Int) ≠ 0 by omega)
    have h2 := Int.emod_lt_of_pos b mI
    show Q (.int (b % (m : Int))) (upd H p (.lst [.int a, .int (b / m)]))
    rw [show b % (m : Int) = ((b % (m : Int)).toNat : Int) by omega]
    exact k _ _ (by omega) .upd (.mk (a := a) (b := b / m) upd_same a0 a1 (Int.ediv_nonneg b0 (by omega)))
  · refine ⟨_, rfl, _, _, _, _, rfl, rfl, SqL.of hp, rfl, _, _, rfl, rfl, .inr ⟨by decide, by decide⟩, _, _, rfl, rfl, _, _, rfl, rfl, by show (0 : Int) < 2147483647; decide, ?_⟩
    refine ⟨_, rfl, _, _, _, 0, rfl, rfl, hp, rfl, ?_⟩
    refine ⟨_, rfl, _, _, _, _, rfl, rfl, SqL.of upd_same, rfl, _, _, rfl, rfl, ⟨by decide, by decide⟩, _, rfl, _, _, rfl, rfl, mI, ?_⟩
    show Q (.int ((a * 48271 + 8191) % 2147483647 / 16 % (m : Int))) (upd H p (.lst [.int ((a * 48271 + 8191) % 2147483647), .int b]))
    generalize ((a * 48271 + 8191) % 2147483647 / 16 : Int) = z
    have h1 := Int.emod_nonneg z (show (m : Int) ≠ 0 by omega)
    have h2 := Int.emod_lt_of_pos z mI
    rw [show z % (m : Int) = ((z % (m : Int)).toNat : Int) by omega]
    exact k _ _ (by omega) .upd (.mk (a := (a * 48271 + 8191) % 2147483647) (b := b) upd_same (Int.emod_nonneg _ (by decide)) (Int.emod_lt_of_pos _ (by decide)) b0)
end
end KD

/-! KDd: _law_word. -/
namespace KD
open PySem PySem.Spec PyProof.Rows L2 LamX NdefX KM
theorem lc_str {x : Str} {g : TG} {tt : TT} {te : TE} {vs : List Nat} {σ : L2.St} {H1 : Hp} {D : Addr} {Qd : Hp → Prop} (Pv : Nat → Hp → Prop) (h0 : Pv 0 (upd H1 D (.lst [])))
    (hs : ∀ i c H, x.cps[i]? = some c → Pv i H → g (.str ⟨#[c]⟩) (wipe σ vs) H fun σ2 H2 => wipe σ2 vs = wipe σ vs ∧ tt σ2 H2 fun b H3 =>
      if b = true then te σ2 H3 fun y H4 => ∃ acc, H4 D = some (.lst acc) ∧ acc.length < sizeLine ∧ Pv (i + 1) (upd H4 D (.lst (acc ++ [y]))) else Pv (i + 1) H3) (hd : ∀ H, Pv x.cps.size H → Qd H) :
    ∃ W : Nat → Nat → Hp → Prop, (∃ m, W 0 m (upd H1 D (.lst []))) ∧ ∀ i m H, W i m H →
      ((Its x).stop i H ∧ Qd H) ∨ ((Its x).go i H ∧ ∃ Nx : Hp → Prop, (∀ H', Nx H' → ∃ m', m' < m ∧ W (i + 1) m' H') ∧ ∀ y H', (Its x).yld i H y H' → g y (wipe σ vs) H' fun σ2 H2 => wipe σ2 vs = wipe σ vs ∧ tt σ2 H2 fun b H3 =>
        if b = true then te σ2 H3 fun y H4 => ∃ acc, H4 D = some (.lst acc) ∧ acc.length < sizeLine ∧ Nx (upd H4 D (.lst (acc ++ [y]))) else Nx H3) := by
  refine ⟨fun i m H => m = x.cps.size - i ∧ i ≤ x.cps.size ∧ Pv i H, ⟨x.cps.size, by simp, Nat.zero_le _, h0⟩, ?_⟩
  rintro i m H ⟨rfl, hi, p⟩
  by_cases hlt : i < x.cps.size
  · refine .inr ⟨hlt, Pv (i + 1), fun H' p' => ⟨x.cps.size - (i + 1), by omega, rfl, hlt, p'⟩, fun y H' yy => ?_⟩
    obtain ⟨e, c, hc, ey⟩ := yy
    subst e ey
    exact hs i c _ hc p
  · have e : i = x.cps.size := by omega
    subst e
    exact .inl ⟨Nat.le_refl _, hd H p⟩
theorem inV_str {x : Str} : ∀ {l : List Str}, inV (.str x) (l.map V.str) = decide (x ∈ l)
  | [] => rfl
  | y :: l => by
    have ih := inV_str (x := x) (l := l)
    unfold inV at ih ⊢
    rw [List.map_cons, List.any_cons, ih]
    show ((y == x) || decide (x ∈ l)) = _
    by_cases e : y = x
    · subst e
      simp
    · simp [e, Ne.symm e]
theorem flat_strs : ∀ (l : List Str), (l.map V.str).all flatV = true
  | [] => rfl
  | _ :: l => by rw [List.map_cons, List.all_cons, flat_strs l] <;> rfl
def lets : Str := "abcdefghijklmnopqrstuvwxyz"
def ltrs : List Str := lets.cps.toList.map fun c => ⟨#[c]⟩
def seven : List Str := ["no", "not", "and", "or", "so", "all", "some"]
theorem lets_size : lets.cps.size = 26 := by decide +kernel
theorem ltrs_nd : ltrs.Nodup := by decide +kernel
theorem ltrs_7 : ∀ x ∈ ltrs, x ∉ seven := by decide +kernel
theorem lets_in : ∀ c ∈ lets.cps.toList, 97 ≤ c ∧ c ≤ 122 := by decide +kernel
theorem G_one {c : Nat} (h : c ∈ lets.cps.toList) : G ⟨#[c]⟩ := ⟨by show 1 ≤ 8; decide, fun d hd => by
  rw [List.mem_singleton.mp (show d ∈ [c] from hd)]
  exact lets_in c h⟩
/-- a letter that is none of few words -/
theorem free_letter {os : List Str} (h : os.length ≤ 25) : ltrs.filter (fun x => !decide (x ∈ os ++ seven)) ≠ [] := by
  intro e
  have z : ∀ x ∈ ltrs, x ∈ os := fun x hx => by
    have q := List.filter_eq_nil_iff.mp e x hx
    have q2 : x ∈ os ++ seven := by
      by_cases d : x ∈ os ++ seven
      · exact d
      · rw [decide_eq_false d] at q
        exact absurd rfl q
    rcases List.mem_append.mp q2 with h | h
    · exact h
    · exact absurd h (ltrs_7 x hx)
  have := SP.nd_len ltrs os ltrs_nd z
  rw [show ltrs.length = 26 by decide +kernel] at this
  omega
def spWord : Sp := fun vs H Q _ => ∃ (p o : Addr) (os : List Str), vs = [.ref p, .ref o] ∧ StA H p ∧ H o = some (.lst (os.map V.str)) ∧ o ≠ p ∧ os.length ≤ 25 ∧ ∀ x H', G x → x ∉ os → x ∉ seven → 1 ≤ x.length → ButS p H H' → StA H' p → Q (.str x) H'
abbrev nWo : List Str := ["_law_state_here", "_law_others", "_law_letters", "_law_barred", "_law_word_here", "_law_k", "_law_letter"]
theorem scWo : FnScope nWo ["_law_state_here", "_law_others"] (defScope (top 46)) := ⟨rfl, rfl, rfl, by decide +kernel, rfl, by decide +kernel, by decide +kernel⟩
section
variable {P : Program} {w : World} {K : PySem.W.Frag} {mg : Str → Option Value} {base : Heap} {f fd' : Addr} {fd fdd : FuncData}
theorem ok_word (F : Fun K "_law_word" "_law_word" (top 46) f fd) (Fd : Fun K "_law_draw" "_law_draw" (top 45) fd' fdd) (bd : Binds K fdd ["_law_state_here", "_law_many"] []) (md : mg "_law_draw" = some (.ref fd')) (X : TxtL mg) (k : Nat) : FnOk P w K mg base CX0 (2 + k) f fd ["_law_state_here", "_law_others"] spWord := by
  rw [show 2 + k = (1 + k) + 1 by omega]
  refine F.ok scWo (fun vs H Q E h => ?_) (fun cdv A0 outer s H vs Q E hr hq => ?_)
  · obtain ⟨p, o, os, rfl, _⟩ := h
    rfl
  obtain ⟨p, o, os, rfl, hp, ho, ne, hl, k⟩ := hq
  refine ⟨_, pss_cons (ps_set (i := 2) scWo.nd rfl (Or.inl rfl) pe_str)
    (pss_cons (ps_set (i := 3) scWo.nd rfl (Or.inr rfl) (pe_op op_cat (pv 1) (pe_lst (pa_cons pe_str (pa_cons pe_str (pa_cons pe_str (pa_cons pe_str (pa_cons pe_str (pa_cons pe_str (pa_cons pe_str pa_nil))))))))))
    (pss_cons (ps_set (i := 4) scWo.nd rfl (Or.inl rfl) pe_str)
    (pss_cons (ps_for PassesOwn.never rfl (pi_range1 rfl X.rng (pa_cons (pe_op op_add pe_int (pe_op op_mul (pe_call (ok_draw Fd _) hr rfl md Fd.kp bd .nil pass0 (pa_cons (pv 0) (pa_cons pe_int pa_nil))) (pe_call (ok_draw Fd _) hr rfl md Fd.kp bd .nil pass0 (pa_cons (pv 0) (pa_cons pe_int pa_nil))))) pa_nil))
      (pg_name (i := 5) scWo.nd rfl (Or.inl rfl)) (pss_one (ps_set (i := 4) scWo.nd rfl (Or.inl rfl) (pe_op op_add_str (pv 4) (pe_ix ix_str (pv 2) (pe_call (ok_draw Fd _) hr rfl md Fd.kp bd .nil pass0 (pa_cons (pv 0) (pa_cons pe_int pa_nil))) (fun _ _ => rfl))))))
    (pss_cons (ps_if (pt_cmpR op_in_seq (pv 4) (pv 3) (by rfl)) (pss_one (ps_set (i := 4) scWo.nd rfl (Or.inl rfl) (pe_ix ix_list
        (pe_lc (own := [("_law_letter", 6)]) (g := gName 6) (tt := tTest (tOp (rIn K true) (tVar 6) (tVar 3))) rfl scWo.nd (pi_str (pv 2)) (blkOk_by (N := nWo) (sc := defScope (top 46)) (by decide +kernel)) (fun _ _ _ _ _ => pg_name (i := 6) scWo.nd rfl (Or.inl rfl)) (fun _ _ _ _ _ => pts_one (pt_cmpR op_notIn_seq (pv 6) (pv 3) (by rfl)))
          (fun _ _ _ _ _ => pv 6)) pe_int (fun _ _ => rfl)))) pss_nil)
    (pss_one (ps_ret (pv 4))))))), ?_⟩
  have ltsz : lets.cps.size = 26 := lets_size
  refine ⟨_, rfl, by show 7 ≤ sizeLine; decide, fun t7 ht7 => ?_⟩
  have s1 : Same H (upd H t7 (.lst [.str "no", .str "not", .str "and", .str "or", .str "so", .str "all", .str "some"])) := Same.upd ht7
  refine ⟨o, t7, _, _, rfl, rfl, s1 _ _ ho, upd_same, ?_, fun b hb => ?_⟩
  · rw [List.length_map]
    exact Nat.le_trans (show os.length + 7 ≤ 1000 by omega) (by decide)
  have s02 : Same H (upd (upd H t7 (.lst [.str "no", .str "not", .str "and", .str "or", .str "so", .str "all", .str "some"])) b (.lst (os.map V.str ++ [.str "no", .str "not", .str "and", .str "or", .str "so", .str "all", .str "some"]))) := s1.trans (Same.upd hb)
  have hb1 : (upd (upd H t7 (.lst [.str "no", .str "not", .str "and", .str "or", .str "so", .str "all", .str "some"])) b (.lst (os.map V.str ++ [.str "no", .str "not", .str "and", .str "or", .str "so", .str "all", .str "some"]))) b = some (.lst ((os ++ seven).map V.str)) := by
    rw [upd_same, List.map_append]
    rfl
  have neb : b ≠ p := by
    intro e
    obtain ⟨_, _, z, _⟩ := hp
    rw [e] at hb
    have := s1 _ _ z
    rw [hb] at this
    cases this
  have hp2 := hp.same s02
  generalize upd (upd H t7 (.lst [.str "no", .str "not", .str "and", .str "or", .str "so", .str "all", .str "some"])) b (.lst (os.map V.str ++ [.str "no", .str "not", .str "and", .str "or", .str "so", .str "all", .str "some"])) = H1 at s02 hb1 hp2 ⊢
  clear hb s1 ht7
  refine ⟨_, rfl, p, 2, rfl, hp2, by decide, by decide, fun r1 H2 l1 b2 p2 => ?_⟩
  refine ⟨_, rfl, p, 8, rfl, p2, by decide, by decide, fun r2 H3 l2 b3 p3 => ?_⟩
  have pr : r1 * r2 ≤ 7 := Nat.le_trans (Nat.mul_le_mul (show r1 ≤ 1 by omega) (show r2 ≤ 7 by omega)) (by decide)
  have b13 := b2.trans b3
  have hb3 := b13 _ _ neb hb1
  have b03 : ButS p H H3 := (Same.but s02).trans b13
  have nn : ((1 : Int) + (r1 : Int) * (r2 : Int)).toNat ≤ 8 := by
    have : ((r1 * r2 : Nat) : Int) = (r1 : Int) * (r2 : Int) := Int.natCast_mul _ _
    omega
  have nj : (0 : Int) ≤ (1 : Int) + (r1 : Int) * (r2 : Int) ∧ (1 : Int) + (r1 : Int) * (r2 : Int) ≤ 8 := by
    have : ((r1 * r2 : Nat) : Int) = (r1 : Int) * (r2 : Int) := Int.natCast_mul _ _
    omega
  refine ⟨_, _, rfl, rfl, .inl ⟨by omega, by omega⟩, _, _, rfl, rfl, _, rfl, ?_, ?_, ?_⟩
  · show -(2 ^ 62) ≤ (1 : Int) + (r1 : Int) * (r2 : Int)
    omega
  · show (1 : Int) + (r1 : Int) * (r2 : Int) < 2 ^ 62
    omega
  refine for_range (fun i σ' H' => ∃ x kk, σ' = [some (V.ref p), some (V.ref o), some (V.str lets), some (V.ref b), some (V.str x), kk, none] ∧ x.cps.toList.length = i ∧ (∀ c ∈ x.cps.toList, 97 ≤ c ∧ c ≤ 122) ∧ ButS p H3 H' ∧ StA H' p)
    ⟨_, none, rfl, rfl, (fun c hc => nomatch (show c ∈ ([] : List Nat) from hc)), .refl H3, p3⟩ (fun i σ' H' hi q => ?_) (fun σ' H' q => ?_)
  · obtain ⟨x, kk, rfl, lx, cx, b4, p4⟩ := q
    have hi8 : i < 8 := Nat.lt_of_lt_of_le hi nn
    refine ⟨_, rfl, _, rfl, _, rfl, p, 26, rfl, p4, by decide, by decide, fun r3 H5 l3 b5 p5 => ?_⟩
    obtain ⟨c, hc⟩ : ∃ c, lets.cps.toList[r3]? = some c := ⟨_, List.getElem?_eq_getElem (by rw [Array.length_toList, ltsz]; exact l3)⟩
    refine ⟨lets, _, c, rfl, rfl, by show lets.cps.size ≤ sizeLine; rw [ltsz]; decide, atI_nat hc, ?_⟩
    have la : (x ++ (⟨#[c]⟩ : Str)).cps.toList = x.cps.toList ++ [c] := by
      show (x.cps ++ #[c]).toList = _
      rw [Array.toList_append]
    refine ⟨_, _, rfl, rfl, ?_, x ++ ⟨#[c]⟩, _, rfl, ?_, fun d hd => ?_, b4.trans b5, p5⟩
    · show x.cps.size + 1 ≤ sizeLine
      rw [← Array.length_toList]
      exact Nat.le_trans (show _ ≤ 1000 by omega) (by decide)
    · rw [la, List.length_append, lx]
      rfl
    · rw [la] at hd
      rcases List.mem_append.mp hd with h | h
      · exact cx d h
      · rw [List.mem_singleton.mp h]
        exact lets_in c (List.mem_of_getElem? hc)
  · obtain ⟨x, kk, rfl, lx, cx, b4, p4⟩ := q
    have gx : G x := ⟨Nat.le_trans (Nat.le_of_eq lx) nn, cx⟩
    have x1 : 1 ≤ x.length := by
      show 1 ≤ x.cps.size
      rw [← Array.length_toList, lx]
      omega
    have hb4 := b4 _ _ neb hb3
    refine ⟨_, rfl, _, rfl, b, _, rfl, .inl (SqL.of hb4), rfl, flat_strs _, _, rfl, ite2 (fun e => ?_) (fun e => ?_)⟩
    · refine ⟨_, rfl, lets, rfl, fun D hD => ?_⟩
      refine lc_str (fun i H5 => Same H' H5 ∧ H5 D = some (.lst (((ltrs.take i).filter fun x => !decide (x ∈ os ++ seven)).map V.str))) ⟨Same.upd hD, by rw [upd_same]; rfl⟩ (fun i c H5 hc q => ?_) (fun H5 q => ?_)
      · obtain ⟨s5, h5⟩ := q
        have hl2 : ltrs[i]? = some ⟨#[c]⟩ := by
          unfold ltrs
          rw [List.getElem?_map, Array.getElem?_toList, hc]
          rfl
        have i26 : i < 26 := by
          have := (List.getElem?_eq_some_iff.mp hl2).1
          rw [show ltrs.length = 26 by decide +kernel] at this
          exact this
        have tk : (ltrs.take (i + 1)).filter (fun x => !decide (x ∈ os ++ seven)) = (ltrs.take i).filter (fun x => !decide (x ∈ os ++ seven)) ++ [(⟨#[c]⟩ : Str)].filter (fun x => !decide (x ∈ os ++ seven)) := by
          rw [List.take_succ, hl2, List.filter_append]
          rfl
        refine ⟨rfl, _, rfl, _, rfl, b, _, rfl, .inl (SqL.of (s5 _ _ hb4)), rfl, flat_strs _, _, rfl, ?_⟩
        rw [if_pos rfl, inV_str]
        refine ite2 (fun e => ?_) (fun e => ?_)
        · refine ⟨_, rfl, _, h5, ?_, fun x u hx => ?_, ?_⟩
          · rw [List.length_map]
            refine Nat.lt_of_le_of_lt (List.length_filter_le _ _) ?_
            rw [List.length_take]
            exact Nat.lt_of_le_of_lt (show _ ≤ 26 by omega) (by decide)
          · rw [upd_ne (ne_of_none hx hD)]
            exact s5 _ _ hx
          · rw [upd_same, tk, List.filter_cons, if_pos e, List.map_append]
            rfl
        · refine ⟨s5, ?_⟩
          rw [h5, tk, List.filter_cons, if_neg e, List.filter_nil, List.append_nil]
      · obtain ⟨s5, h5⟩ := q
        rw [show lets.cps.size = ltrs.length by decide +kernel, List.take_length] at h5
        have nef := free_letter hl
        generalize hf : ltrs.filter (fun x => !decide (x ∈ os ++ seven)) = fl at h5 nef
        match fl, nef with
        | y :: fl, _ =>
          have hy : y ∈ ltrs := (List.mem_filter.mp (show y ∈ ltrs.filter _ by rw [hf]; exact List.mem_cons_self)).1
          have ny : y ∉ os ++ seven := fun z => by
            have q := (List.mem_filter.mp (show y ∈ ltrs.filter _ by rw [hf]; exact List.mem_cons_self)).2
            rw [decide_eq_true z] at q
            exact absurd q (by decide)
          obtain ⟨c, hc, rfl⟩ := List.mem_map.mp hy
          exact ⟨_, _, _, _, rfl, rfl, SqL.of h5, atI_nat (j := 0) rfl, _, rfl, k _ _ (G_one hc) (fun z => ny (List.mem_append_left _ z)) (fun z => ny (List.mem_append_right _ z)) (Nat.le_refl _) ((b03.trans b4).same s5) (p4.same s5)⟩
    · have nx : x ∉ os ++ seven := fun z => e (by rw [if_neg (by decide), inV_str]; exact decide_eq_true z)
      exact ⟨_, rfl, k x _ gx (fun z => nx (List.mem_append_left _ z)) (fun z => nx (List.mem_append_right _ z)) x1 (b03.trans b4) p4⟩
end
end KD

/-! KDe: _law_kinds. -/
namespace KD
open PySem PySem.Spec PyProof.Rows L2 LamX NdefX KM
/-- all stays but what M names -/
def Mu (M : List Addr) (H H' : Hp) : Prop := ∀ a o, a ∉ M → H a = some o → H' a = some o
theorem Mu.refl {M : List Addr} (H : Hp) : Mu M H H := fun _ _ _ h => h
theorem Mu.trans {M : List Addr} {H H1 H2 : Hp} (a : Mu M H H1) (b : Mu M H1 H2) : Mu M H H2 := fun x o n h => b x o n (a x o n h)
theorem Mu.same {M : List Addr} {H H1 : Hp} (a : Same H H1) : Mu M H H1 := fun x o _ h => a x o h
theorem Mu.but {M : List Addr} {p : Addr} {H H1 : Hp} (a : ButS p H H1) (h : p ∈ M) : Mu M H H1 := fun x o n e => a x o (fun z => n (z ▸ h)) e
theorem Mu.upd {M : List Addr} {x : Addr} {H : Hp} {o : HO} (h : x ∈ M) : Mu M H (L2.upd H x o) := fun y u n e => by rw [upd_ne (fun z => n (by rw [z]; exact h))]; exact e
theorem Mu.new {M : List Addr} {x : Addr} {H : Hp} {o : HO} (h : H x = none) : Mu M H (L2.upd H x o) := fun y u n e => by rw [upd_ne (ne_of_none e h)]; exact e
theorem Mu.sub {M N : List Addr} {H H1 : Hp} (a : Mu M H H1) (h : ∀ x ∈ M, x ∈ N) : Mu N H H1 := fun x o n e => a x o (fun z => n (h x z)) e
/-- behind x, new in H, the rest of M is left -/
theorem Mu.old {M : List Addr} {x : Addr} {H H1 : Hp} (a : Mu (x :: M) H H1) (h : H x = none) : Mu M H H1 := fun y o n e => a y o (fun z => (List.mem_cons.mp z).elim (fun w => ne_of_none e h w) n) e
/-- o stands at a, and stays -/
def Sb (M : List Addr) (H : Hp) (a : Addr) (o : HO) : Prop := H a = some o ∧ a ∉ M
theorem Sb.mono {M : List Addr} {H H' : Hp} {a : Addr} {o : HO} (h : Sb M H a o) (m : Mu M H H') : Sb M H' a o := ⟨m _ _ h.2 h.1, h.2⟩
theorem Sb.fresh {M : List Addr} {H : Hp} {a x : Addr} {o : HO} (h : Sb M H a o) (hx : H x = none) : Sb (x :: M) H a o := ⟨h.1, fun z => (List.mem_cons.mp z).elim (fun w => ne_of_none h.1 hx w) h.2⟩
theorem Sb.drop {M N : List Addr} {H : Hp} {a : Addr} {o : HO} (h : Sb M H a o) (s : ∀ x ∈ N, x ∈ M) : Sb N H a o := ⟨h.1, fun z => h.2 (s _ z)⟩
theorem Sb.new {M : List Addr} {H : Hp} {a : Addr} {o : HO} (ha : H a = none) (hM : ∀ x ∈ M, H x ≠ none) : Sb M (upd H a o) a o := ⟨upd_same, fun z => hM a z ha⟩
/-- a maker's row: its name, what it takes -/
def MAt (M : List Addr) (ks : List Str) (H : Hp) (v : V) : Prop := ∃ (b tk : Addr) (x : Str) (ts : List Str), v = .ref b ∧ Sb M H b (.tup [.str x, .ref tk]) ∧ Sb M H tk (.lst (ts.map V.str)) ∧ G x ∧ ts.length ≤ 3 ∧ ∀ y ∈ ts, y ∈ ks
def KAt (M : List Addr) (ks : List Str) (H : Hp) (v : V) : Prop := ∃ (a mk : Addr) (x : Str) (ms : List V), v = .ref a ∧ Sb M H a (.tup [.str x, .ref mk]) ∧ Sb M H mk (.lst ms) ∧ x ∈ ks ∧ ms.length ≤ 3 ∧ ∀ m ∈ ms, MAt M ks H m
theorem MAt.mono {M : List Addr} {ks : List Str} {H H' : Hp} {v : V} (h : MAt M ks H v) (m : Mu M H H') : MAt M ks H' v := by
  obtain ⟨b, tk, x, ts, e, h1, h2, r⟩ := h
  exact ⟨b, tk, x, ts, e, h1.mono m, h2.mono m, r⟩
theorem MAt.fresh {M : List Addr} {ks : List Str} {H : Hp} {v : V} {x : Addr} (h : MAt M ks H v) (hx : H x = none) : MAt (x :: M) ks H v := by
  obtain ⟨b, tk, y, ts, e, h1, h2, r⟩ := h
  exact ⟨b, tk, y, ts, e, h1.fresh hx, h2.fresh hx, r⟩
theorem MAt.drop {M N : List Addr} {ks : List Str} {H : Hp} {v : V} (h : MAt M ks H v) (s : ∀ x ∈ N, x ∈ M) : MAt N ks H v := by
  obtain ⟨b, tk, y, ts, e, h1, h2, r⟩ := h
  exact ⟨b, tk, y, ts, e, h1.drop s, h2.drop s, r⟩
theorem MAt.more {M : List Addr} {ks kt : List Str} {H : Hp} {v : V} (h : MAt M ks H v) (s : ∀ x ∈ ks, x ∈ kt) : MAt M kt H v := by
  obtain ⟨b, tk, y, ts, e, h1, h2, r, l, z⟩ := h
  exact ⟨b, tk, y, ts, e, h1, h2, r, l, fun q hq => s q (z q hq)⟩
theorem KAt.mono {M : List Addr} {ks : List Str} {H H' : Hp} {v : V} (h : KAt M ks H v) (m : Mu M H H') : KAt M ks H' v := by
  obtain ⟨b, tk, x, ts, e, h1, h2, r, l, z⟩ := h
  exact ⟨b, tk, x, ts, e, h1.mono m, h2.mono m, r, l, fun q hq => (z q hq).mono m⟩
theorem KAt.fresh {M : List Addr} {ks : List Str} {H : Hp} {v : V} {x : Addr} (h : KAt M ks H v) (hx : H x = none) : KAt (x :: M) ks H v := by
  obtain ⟨b, tk, y, ts, e, h1, h2, r, l, z⟩ := h
  exact ⟨b, tk, y, ts, e, h1.fresh hx, h2.fresh hx, r, l, fun q hq => (z q hq).fresh hx⟩
theorem KAt.drop {M N : List Addr} {ks : List Str} {H : Hp} {v : V} (h : KAt M ks H v) (s : ∀ x ∈ N, x ∈ M) : KAt N ks H v := by
  obtain ⟨b, tk, y, ts, e, h1, h2, r, l, z⟩ := h
  exact ⟨b, tk, y, ts, e, h1.drop s, h2.drop s, r, l, fun q hq => (z q hq).drop s⟩
theorem KAt.more {M : List Addr} {ks kt : List Str} {H : Hp} {v : V} (h : KAt M ks H v) (s : ∀ x ∈ ks, x ∈ kt) : KAt M kt H v := by
  obtain ⟨b, tk, y, ts, e, h1, h2, r, l, z⟩ := h
  exact ⟨b, tk, y, ts, e, h1, h2, s _ r, l, fun q hq => (z q hq).more s⟩
/-! ### as data -/
theorem strs_dp {K : PySem.W.Frag} {H : Hp} : ∀ (ts : List Str), DpAll K H (ts.map V.str) (ts.map PyData.str)
  | [] => .nil
  | t :: ts => .cons (.str t) (strs_dp ts)
theorem can_strs : ∀ {ts : List Str}, (∀ x ∈ ts, G x) → PyData.canLayAll0 (ts.map PyData.str) = true
  | [], _ => by simp only [List.map_nil, PyData.canLayAll0]
  | t :: ts, h => by
    simp only [List.map_cons, PyData.canLayAll0, PyData.canLay0, Bool.and_eq_true]
    exact ⟨G.strOk (h t List.mem_cons_self), can_strs fun x hx => h x (List.mem_cons_of_mem _ hx)⟩
theorem dep_strs : ∀ (ts : List Str), PyData.depthAll (ts.map PyData.str) = 0
  | [] => by simp [PyData.depthAll]
  | t :: ts => by
    simp only [List.map_cons, PyData.depthAll, dep_strs ts, PyData.depth]
    rfl
theorem shaped_strs {ts : List Str} (h : ∀ x ∈ ts, G x) : SeqAt.shaped (.list (ts.map PyData.str)) = true := by
  unfold SeqAt.shaped
  have c : (PyData.list (ts.map PyData.str)).canLay0 = true := by
    simp only [PyData.canLay0]
    exact can_strs h
  rw [c, Bool.true_and]
  refine decide_eq_true ?_
  simp only [PyData.depth, dep_strs]
  omega
theorem mAt_dp {K : PySem.W.Frag} {M : List Addr} {ks : List Str} {H : Hp} (hk : ∀ x ∈ ks, G x) : ∀ {ms : List V}, (∀ m ∈ ms, MAt M ks H m) → ∃ ds, DpAll K H ms ds ∧ PyData.canLayAll0 ds = true ∧ PyData.depthAll ds ≤ 2
  | [], _ => ⟨[], .nil, by simp only [PyData.canLayAll0], by simp [PyData.depthAll]⟩
  | m :: ms, h => by
    obtain ⟨b, tk, x, ts, rfl, h1, h2, g, l, z⟩ := h m List.mem_cons_self
    obtain ⟨ds, d1, d2, d3⟩ := mAt_dp hk (ms := ms) fun q hq => h q (List.mem_cons_of_mem _ hq)
    refine ⟨.tuple [.str x, .list (ts.map PyData.str)] :: ds, .cons (.tup (SqT.of h1.1) (.cons (.str x) (.cons (.lst (SqL.of h2.1) (strs_dp ts)) .nil))) d1, ?_, ?_⟩
    · simp only [PyData.canLayAll0, PyData.canLay0, Bool.and_eq_true]
      exact ⟨⟨G.strOk g, can_strs fun y hy => hk y (z y hy), trivial⟩, d2⟩
    · simp only [PyData.depthAll, PyData.depth, dep_strs]
      omega
theorem mAt_list {K : PySem.W.Frag} {M : List Addr} {ks : List Str} {H : Hp} {mk : Addr} {ms : List V} (hk : ∀ x ∈ ks, G x) (h : H mk = some (.lst ms)) (hm : ∀ m ∈ ms, MAt M ks H m) : ∃ d, Dp K H (.ref mk) d ∧ SeqAt.shaped d = true := by
  obtain ⟨ds, d1, d2, d3⟩ := mAt_dp (K := K) hk hm
  refine ⟨.list ds, .lst (SqL.of h) d1, ?_⟩
  unfold SeqAt.shaped
  have c : (PyData.list ds).canLay0 = true := by
    simp only [PyData.canLay0]
    exact d2
  rw [c, Bool.true_and]
  refine decide_eq_true ?_
  simp only [PyData.depth]
  omega
end KD

/-! KDf: _law_works. -/
namespace KD
open PySem PySem.Spec PyProof.Rows L2 LamX NdefX KM
abbrev rLenK (K : PySem.W.Frag) : List V → Hp → VK → Prop := fun xs H Q => ∃ p ys, xs = [.ref p] ∧ (SqL K H p ys ∨ SqT K H p ys) ∧ Q (.int ys.length) H
abbrev Row : Type := Str × List Str × Str
/-- a work's row: its name, what it takes, gives; no place, no rights -/
def WAt (M : List Addr) (H : Hp) (v : V) (r : Row) : Prop := ∃ (a tk e : Addr), v = .ref a ∧ Sb M H a (.tup [.str r.1, .ref tk, .str r.2.2, .non, .ref e]) ∧ Sb M H tk (.lst (r.2.1.map V.str)) ∧ Sb M H e (.lst [])
def RowG (ks : List Str) (r : Row) : Prop := (G r.1 ∧ 1 ≤ r.1.length) ∧ r.1 ∉ seven ∧ r.2.2 ∈ ks ∧ r.2.1.length ≤ 3 ∧ ∀ y ∈ r.2.1, y ∈ ks
/-- a kind's row, without makers -/
def OAt (M : List Addr) (H : Hp) (v : V) (n : Str) : Prop := ∃ (a mk : Addr), v = .ref a ∧ Sb M H a (.tup [.str n, .ref mk])
/-- each with its own -/
inductive Each {β α : Type} (R : β → α → Prop) : List β → List α → Prop
  | nil : Each R [] []
  | cons {v : β} {vs : List β} {r : α} {rs : List α} : R v r → Each R vs rs → Each R (v :: vs) (r :: rs)
theorem Each.imp {β α : Type} {R S : β → α → Prop} (h : ∀ v r, R v r → S v r) : ∀ {vs : List β} {rs : List α}, Each R vs rs → Each S vs rs
  | _, _, .nil => .nil
  | _, _, .cons a b => .cons (h _ _ a) (b.imp h)
theorem Each.length {β α : Type} {R : β → α → Prop} : ∀ {vs : List β} {rs : List α}, Each R vs rs → vs.length = rs.length
  | _, _, .nil => rfl
  | _, _, .cons _ b => congrArg (· + 1) b.length
theorem Each.snoc {β α : Type} {R : β → α → Prop} {v : β} {r : α} (h : R v r) : ∀ {vs : List β} {rs : List α}, Each R vs rs → Each R (vs ++ [v]) (rs ++ [r])
  | _, _, .nil => .cons h .nil
  | _, _, .cons a b => .cons a (b.snoc h)
theorem Each.get {β α : Type} {R : β → α → Prop} : ∀ {vs : List β} {rs : List α} {i : Nat} {v : β}, Each R vs rs → vs[i]? = some v → ∃ r, rs[i]? = some r ∧ R v r
  | _, _, 0, _, .cons a _, e => ⟨_, rfl, by
    rw [← Option.some.inj e]
    exact a⟩
  | _, _, i + 1, _, .cons _ b, e => b.get (i := i) e
theorem WAt.mono {M : List Addr} {H H' : Hp} {v : V} {r : Row} (h : WAt M H v r) (m : Mu M H H') : WAt M H' v r := by
  obtain ⟨b, tk, e, e1, h1, h2, h3⟩ := h
  exact ⟨b, tk, e, e1, h1.mono m, h2.mono m, h3.mono m⟩
theorem WAt.drop {M N : List Addr} {H : Hp} {v : V} {r : Row} (h : WAt M H v r) (s : ∀ x ∈ N, x ∈ M) : WAt N H v r := by
  obtain ⟨b, tk, e, e1, h1, h2, h3⟩ := h
  exact ⟨b, tk, e, e1, h1.drop s, h2.drop s, h3.drop s⟩
theorem WAt.fresh {M : List Addr} {H : Hp} {v : V} {r : Row} {x : Addr} (h : WAt M H v r) (hx : H x = none) : WAt (x :: M) H v r := by
  obtain ⟨b, tk, e, e1, h1, h2, h3⟩ := h
  exact ⟨b, tk, e, e1, h1.fresh hx, h2.fresh hx, h3.fresh hx⟩
theorem OAt.mono {M : List Addr} {H H' : Hp} {v : V} {n : Str} (h : OAt M H v n) (m : Mu M H H') : OAt M H' v n := by
  obtain ⟨a, mk, e, h1⟩ := h
  exact ⟨a, mk, e, h1.mono m⟩
theorem OAt.drop {M N : List Addr} {H : Hp} {v : V} {n : Str} (h : OAt M H v n) (s : ∀ x ∈ N, x ∈ M) : OAt N H v n := by
  obtain ⟨a, mk, e, h1⟩ := h
  exact ⟨a, mk, e, h1.drop s⟩
theorem OAt.fresh {M : List Addr} {H : Hp} {v : V} {n : Str} {x : Addr} (h : OAt M H v n) (hx : H x = none) : OAt (x :: M) H v n := by
  obtain ⟨a, mk, e, h1⟩ := h
  exact ⟨a, mk, e, h1.fresh hx⟩
theorem StA.not {H : Hp} {p x : Addr} (h : StA H p) (e : H x = none) : x ≠ p := by
  obtain ⟨_, _, z, _⟩ := h
  exact Ne.symm (ne_of_none z e)
theorem StA.upd {H : Hp} {p x : Addr} {o : HO} (h : StA H p) (e : x ≠ p) : StA (L2.upd H x o) p := by
  obtain ⟨a, b, z, r⟩ := h
  exact ⟨a, b, by rw [upd_ne (Ne.symm e)]; exact z, r⟩
theorem pick_kind {K : PySem.W.Frag} {M : List Addr} {σ : L2.St} {H : Hp} {Qe : VK} {p kk : Addr} {kn : List Str} {us : List V} (h0 : σ[0]? = some (some (V.ref p))) (h1 : σ[1]? = some (some (V.ref kk))) (hp : StA H p) (hM : p ∈ M) (hk : H kk = some (.lst us)) (nk : kk ≠ p) (lu1 : 0 < kn.length) (lu4 : kn.length ≤ 4) (uk : Each (OAt M H) us kn)
    (k : ∀ n H', n ∈ kn → ButS p H H' → StA H' p → Qe (.str n) H') : (tOp (rIxT K) (tOp (rIxL K) (tVar 1) (tCall spDraw [] E0 (tCons (tVar 0) (tCons (tCB (rLenK K) (tCons (tVar 1) tNil)) tNil)))) (tC (V.int 0))) σ H Qe := by
  have lu := uk.length
  refine ⟨_, h1, _, h0, _, h1, _, _, rfl, .inl (SqL.of hk), p, us.length, rfl, hp, by omega, by omega, fun r H2 l b2 p2 => ?_⟩
  obtain ⟨v, hv⟩ : ∃ v, us[r]? = some v := ⟨_, List.getElem?_eq_getElem l⟩
  obtain ⟨n, hn, a, mk, rfl, ha⟩ := uk.get hv
  have nap : a ≠ p := fun z => ha.2 (z ▸ hM)
  exact ⟨_, _, _, _, rfl, rfl, SqL.of (b2 _ _ nk hk), atI_nat hv, _, _, _, _, rfl, rfl, SqT.of (b2 _ _ nap ha.1), atI_nat (j := 0) rfl, k n H2 (List.mem_of_getElem? hn) b2 p2⟩
def spWorks : Sp := fun vs H Q _ => ∃ (p kk t : Addr) (kn os : List Str) (us : List V), vs = [.ref p, .ref kk, .ref t] ∧ StA H p ∧ H t = some (.lst (os.map V.str)) ∧ os.length ≤ 16 ∧ os.Nodup ∧ t ≠ p ∧ Sb [p, t] H kk (.lst us) ∧ 0 < kn.length ∧ kn.length ≤ 4 ∧ Each (OAt [p, t] H) us kn ∧
  ∀ (wk : Addr) (H' : Hp) (ws : List V) (rows : List Row), Mu [p, t] H H' → StA H' p → H' t = some (.lst ((os ++ rows.map (·.1)).map V.str)) → (os ++ rows.map (·.1)).Nodup → H wk = none → Sb [p, t] H' wk (.lst ws) → rows.length ≤ 4 → (∀ r ∈ rows, RowG kn r) → Each (WAt [p, t] H') ws rows → Q (.ref wk) H'
abbrev nWk : List Str := ["_law_state_here", "_law_kinds_here", "_law_taken", "_law_works_here", "_law_k", "_law_name", "_law_takes", "_law_j"]
theorem scWk : FnScope nWk ["_law_state_here", "_law_kinds_here", "_law_taken"] (defScope (top 48)) := ⟨rfl, rfl, rfl, by decide +kernel, rfl, by decide +kernel, by decide +kernel⟩
section
variable {P : Program} {w : World} {K : PySem.W.Frag} {mg : Str → Option Value} {base : Heap} {f fr' fw : Addr} {fd fdd fdw : FuncData}
theorem ok_works (F : Fun K "_law_works" "_law_works" (top 48) f fd) (Fd : Fun K "_law_draw" "_law_draw" (top 45) fr' fdd) (bd : Binds K fdd ["_law_state_here", "_law_many"] []) (md : mg "_law_draw" = some (.ref fr'))
    (Fw : Fun K "_law_word" "_law_word" (top 46) fw fdw) (bw : Binds K fdw ["_law_state_here", "_law_others"] []) (mw : mg "_law_word" = some (.ref fw)) (X : TxtL mg) (k : Nat) : FnOk P w K mg base CX0 (3 + k) f fd ["_law_state_here", "_law_kinds_here", "_law_taken"] spWorks := by
  rw [show 3 + k = (2 + k) + 1 by omega]
  refine F.ok scWk (fun vs H Q E h => ?_) (fun cdv A0 outer s H vs Q E hr hq => ?_)
  · obtain ⟨p, kk, t, _, _, _, rfl, _⟩ := h
    rfl
  obtain ⟨p, kk, t, kn, os, us, rfl, hp, ht, lo, ndo, ne, hk, lu1, lu4, uk, kq⟩ := hq
  refine ⟨_, /-T-/(pss_cons (ps_set (i := 3) scWk.nd rfl (Or.inl rfl) (pe_lst pa_nil))
      (pss_cons (ps_for PassesOwn.never rfl (pi_range1 rfl X.rng (pa_cons (pe_call (ok_draw Fd k) (hr.mono (by omega)) rfl md Fd.kp bd .nil pass0 (pa_cons (pv 0) (pa_cons pe_int pa_nil))) pa_nil)) (pg_name (i := 4) scWk.nd rfl (Or.inl rfl)) (pss_cons (ps_set (i := 5) scWk.nd rfl (Or.inl rfl) (pe_call (ok_word Fw Fd bd md X k) (hr.mono (by omega)) rfl mw Fw.kp bw .nil pass0 (pa_cons (pv 0) (pa_cons (pv 2) pa_nil))))
      (pss_cons (ps_expr (pe_bm PySem.F.plainAttrs_list PySem.F.slot_list_append PySem.F.type_list_append mt_append (pv 2) (pa_cons (pv 5) pa_nil)))
      (pss_cons (ps_setLc (i := 6) (own := [("_law_j", 7)]) (g := gName 7) (tt := tYes) (te := tOp (rIxT K) (tOp (rIxL K) (tVar 1) (tCall spDraw [] E0 (tCons (tVar 0) (tCons (tCB (rLenK K) (tCons (tVar 1) tNil)) tNil)))) (tC (V.int 0))) rfl scWk.nd rfl rfl rfl (pi_range1 rfl X.rng (pa_cons (pe_call (ok_draw Fd k) (hr.mono (by omega)) rfl md Fd.kp bd .nil pass0 (pa_cons (pv 0) (pa_cons pe_int pa_nil))) pa_nil)) (blkOk_by (N := nWk) (sc := defScope (top 48)) (by decide +kernel)) (fun _ _ _ _ _ => pg_name (i := 7) scWk.nd rfl (Or.inl rfl)) (fun _ _ _ _ _ => pts_nil) (fun _ _ _ _ _ => (pe_ix ix_tup (pe_ix ix_list (pv 1) (pe_call (ok_draw Fd k) (hr.mono (by omega)) rfl md Fd.kp bd .nil pass0 (pa_cons (pv 0) (pa_cons (pe_callB call_len_seq (by rfl) X.len PySem.boot_len (pa_cons (pv 1) pa_nil)) pa_nil))) (fun _ _ => rfl)) pe_int (fun _ _ => rfl))))
      (pss_one
        (ps_expr (pe_bm PySem.F.plainAttrs_list PySem.F.slot_list_append PySem.F.type_list_append mt_append (pv 3) (pa_cons (pe_tup (pa_cons (pv 5) (pa_cons (pv 6) (pa_cons (pe_ix ix_tup (pe_ix ix_list (pv 1) (pe_call (ok_draw Fd k) (hr.mono (by omega)) rfl md Fd.kp bd .nil pass0 (pa_cons (pv 0) (pa_cons (pe_callB call_len_seq (by rfl) X.len PySem.boot_len (pa_cons (pv 1) pa_nil)) pa_nil))) (fun _ _ => rfl)) pe_int (fun _ _ => rfl)) (pa_cons pe_non (pa_cons (pe_lst pa_nil) pa_nil)))))) pa_nil))))))))
      (pss_one
        (ps_ret (pv 3)))))/-E-/, ?_⟩
/-B-/
  have nkp : kk ≠ p := fun z => hk.2 (by simp [z])
  have nkt : kk ≠ t := fun z => hk.2 (by simp [z])
  refine ⟨Nat.zero_le _, fun wk hwk => ?_⟩
  have sK : Same H (upd H wk (.lst [])) := Same.upd hwk
  have pK := hp.same sK
  have tK := sK _ _ ht
  have wK : upd H wk (.lst []) wk = some (.lst []) := upd_same
  have nwp := hp.not hwk
  have nwt : wk ≠ t := Ne.symm (ne_of_none ht hwk)
  generalize upd H wk (.lst []) = HK at sK pK tK wK ⊢
  refine ⟨_, rfl, p, 5, rfl, pK, by decide, by decide, fun r1 H1 l1 b1 p1 => ?_⟩
  have t1 := b1 _ _ ne tK
  have w1 := b1 _ _ nwp wK
  have mu1 : Mu [p, t] H H1 := (Mu.same sK).trans (.but b1 (by simp))
  refine ⟨_, rfl, by omega, by omega, ?_⟩
  refine for_range (fun i σ' H' => ∃ (rows : List Row) (ws : List V) (o4 o5 o6 : Option V), σ' = [some (V.ref p), some (V.ref kk), some (V.ref t), some (V.ref wk), o4, o5, o6, none] ∧ Mu [wk, p, t] H1 H' ∧ StA H' p ∧ H' t = some (.lst ((os ++ rows.map (·.1)).map V.str)) ∧ (os ++ rows.map (·.1)).Nodup ∧
      H' wk = some (.lst ws) ∧ rows.length = i ∧ (∀ r ∈ rows, RowG kn r) ∧ Each (WAt [wk, p, t] H') ws rows)
    ⟨[], [], none, none, none, rfl, .refl H1, p1, by rw [List.map_nil, List.append_nil]; exact t1, by rw [List.map_nil, List.append_nil]; exact ndo, w1, rfl, (fun x hx => nomatch hx), .nil⟩ (fun i σ' H2 hi q => ?_) (fun σ' H2 q => ?_)
  · obtain ⟨rows, ws, o4, o5, o6, rfl, m2, p2, t2, nd2, w2, lw, gr, aw⟩ := q
    have la := aw.length
    have lo2 : (os ++ rows.map (·.1)).length ≤ 20 := by
      have hi : i < ((r1 : Int)).toNat := hi
      rw [List.length_append, List.length_map]
      omega
    have i4 : i < 4 := by
      have hi : i < ((r1 : Int)).toNat := hi
      omega
    generalize eos : os ++ rows.map (·.1) = os' at t2 nd2 lo2
    refine ⟨_, rfl, _, rfl, p, t, os', rfl, p2, t2, ne, by omega, fun x H3 gx nx1 nx2 x1 b3 p3 => ?_⟩
    have t3 := b3 _ _ ne t2
    refine ⟨_, rfl, .inl ⟨rfl, _, SqL.of t3⟩, _, rfl, _, _, _, rfl, rfl, t3, ?_, ?_⟩
    · rw [List.length_map]
      exact Nat.lt_of_le_of_lt (show os'.length ≤ 1000 by omega) (by decide)
    have mu4 : Mu [p, t] H2 (upd H3 t (.lst (os'.map V.str ++ [V.str x]))) := (Mu.but b3 (by simp)).trans (Mu.upd (by simp))
    have p4 : StA (upd H3 t (.lst (os'.map V.str ++ [V.str x]))) p := p3.upd ne
    have t4 : upd H3 t (.lst (os'.map V.str ++ [V.str x])) t = some (.lst ((os' ++ [x]).map V.str)) := by rw [upd_same, List.map_append] <;> rfl
    generalize upd H3 t (.lst (os'.map V.str ++ [V.str x])) = H4 at mu4 p4 t4 ⊢
    have w4 := mu4 _ _ (by simp [nwp, nwt]) w2
    have mu14 : Mu [wk, p, t] H1 H4 := m2.trans (mu4.sub (by simp))
    have mu04 : Mu [p, t] H H4 := fun a o hn ha => mu14 _ _ (by simp [ne_of_none ha hwk, show a ≠ p from fun z => hn (by simp [z]), show a ≠ t from fun z => hn (by simp [z])]) (mu1 _ _ hn ha)
    refine ⟨_, rfl, p, 4, rfl, p4, by decide, by decide, fun r2 H5 l2 b5 p5 => ?_⟩
    have mu45 : Mu [p, t] H4 H5 := .but b5 (by simp)
    have mu05 := mu04.trans mu45
    have k5 := mu05 _ _ hk.2 hk.1
    have t5 := b5 _ _ ne t4
    have w5 := b5 _ _ nwp w4
    refine ⟨_, rfl, by omega, by omega, fun D hD => ?_⟩
    have nDp := p5.not hD
    have nDt : D ≠ t := Ne.symm (ne_of_none t5 hD)
    have nDw : D ≠ wk := Ne.symm (ne_of_none w5 hD)
    refine lc_range (fun j H6 => Mu [D, p] H5 H6 ∧ StA H6 p ∧ ∃ ts : List Str, H6 D = some (.lst (ts.map V.str)) ∧ ts.length = j ∧ ∀ y ∈ ts, y ∈ kn)
      ⟨.upd (by simp), p5.upd nDp, [], upd_same, rfl, (fun y hy => nomatch hy)⟩ (fun j H6 hj q => ?_) (fun H6 q => ?_)
    · obtain ⟨m6, p6, ts, d6, lts, mts⟩ := q
      have mu06 : Mu [p, t] H H6 := fun a o hn ha => by
        have h5 := mu05 _ _ hn ha
        exact m6 _ _ (by simp [ne_of_none h5 hD, show a ≠ p from fun z => hn (by simp [z])]) h5
      have j3 : j < 3 := by
        have hj : j < ((r2 : Int)).toNat := hj
        omega
      refine ⟨rfl, ?_⟩
      unfold tYes
      simp only [if_true]
      refine pick_kind (M := [p, t]) rfl rfl p6 (by simp) (mu06 _ _ hk.2 hk.1) nkp lu1 lu4 (uk.imp fun v n h => h.mono mu06) fun n H7 hn b7 p7 => ?_
      refine ⟨_, b7 _ _ nDp d6, ?_, (m6.trans (.but b7 (by simp))).trans (.upd (by simp)), p7.upd nDp, ts ++ [n], by rw [upd_same, List.map_append] <;> rfl, by rw [List.length_append, lts] <;> rfl, fun y hy => ?_⟩
      · rw [List.length_map]
        exact Nat.lt_of_le_of_lt (show ts.length ≤ 1000 by omega) (by decide)
      · rcases List.mem_append.mp hy with h | h
        · exact mts y h
        · rw [List.mem_singleton.mp h]
          exact hn
    obtain ⟨m6, p6, ts, d6, lts, mts⟩ := q
    have lts3 : ts.length ≤ 3 := by
      have lts : ts.length = ((r2 : Int)).toNat := lts
      omega
    have mu46 : Mu [p, t] H4 H6 := fun a o hn ha => by
      have h5 := mu45 _ _ hn ha
      exact m6 _ _ (by simp [ne_of_none h5 hD, show a ≠ p from fun z => hn (by simp [z])]) h5
    have mu06 := mu04.trans mu46
    have w6 := mu46 _ _ (by simp [nwp, nwt]) w4
    have t6 : H6 t = some (.lst ((os' ++ [x]).map V.str)) := m6 _ _ (by simp [Ne.symm nDt, ne]) t5
    refine ⟨_, rfl, .inl ⟨rfl, _, SqL.of w6⟩, _, rfl, _, rfl, ?_⟩
    refine pick_kind (M := [p, t]) rfl rfl p6 (by simp) (mu06 _ _ hk.2 hk.1) nkp lu1 lu4 (uk.imp fun v n h => h.mono mu06) fun n H7 hn b7 p7 => ?_
    refine ⟨Nat.zero_le _, fun e he => ⟨by show 5 ≤ sizeLine; decide, fun b hb => ?_⟩⟩
    have w7 := b7 _ _ nwp w6
    have t7 := b7 _ _ ne t6
    have d7 := b7 _ _ nDp d6
    have se : Same H7 (upd H7 e (.lst [])) := Same.upd he
    have nep := p7.not he
    have p8 := p7.upd (o := .lst []) nep
    have w8 := se _ _ w7
    have t8 := se _ _ t7
    have d8 := se _ _ d7
    have he8 : upd H7 e (.lst []) e = some (.lst []) := upd_same
    have new' : e ≠ wk := Ne.symm (ne_of_none w7 he)
    have net : e ≠ t := Ne.symm (ne_of_none t7 he)
    generalize upd H7 e (.lst []) = H8 at se p8 w8 t8 d8 he8 hb ⊢
    have e8 : H8 e = some (.lst []) := he8
    have nbp := p8.not hb
    have nbw : b ≠ wk := Ne.symm (ne_of_none w8 hb)
    have nbt : b ≠ t := Ne.symm (ne_of_none t8 hb)
    have nbD : b ≠ D := Ne.symm (ne_of_none d8 hb)
    have nbe : b ≠ e := Ne.symm (ne_of_none e8 hb)
    have mf : Mu [wk, p, t] H4 (upd (upd H8 b (.tup [V.str x, V.ref D, V.str n, V.non, V.ref e])) wk (.lst (ws ++ [V.ref b]))) := ((((mu46.trans (.but b7 (by simp))).trans (.same se)).sub (by simp)).trans (.new hb)).trans (.upd (by simp))
    have e2 : os ++ (rows ++ [((x, ts, n) : Row)]).map (·.1) = os' ++ [x] := by rw [List.map_append, ← List.append_assoc, eos] <;> rfl
    refine ⟨_, _, _, rfl, rfl, by rw [upd_ne (Ne.symm nbw)]; exact w8, ?_, rows ++ [(x, ts, n)], ws ++ [V.ref b], _, _, _, rfl, mu14.trans mf, (p8.upd nbp).upd nwp, ?_, ?_, upd_same, by rw [List.length_append, lw] <;> rfl, fun r hr => ?_, ?_⟩
    · exact Nat.lt_of_le_of_lt (show ws.length ≤ 1000 by omega) (by decide)
    · rw [e2, upd_ne (Ne.symm nwt), upd_ne (Ne.symm nbt)]
      exact t8
    · rw [e2]
      exact List.nodup_append.mpr ⟨nd2, by simp, fun a ha c hc => by rw [List.mem_singleton.mp hc]; exact fun z => nx1 (z ▸ ha)⟩
    · rcases List.mem_append.mp hr with h | h
      · exact gr r h
      · rw [List.mem_singleton.mp h]
        exact ⟨⟨gx, x1⟩, nx2, hn, lts3, mts⟩
    · exact Each.snoc ⟨b, D, e, rfl, ⟨by rw [upd_ne nbw, upd_same], by simp [nbw, nbp, nbt]⟩, ⟨by rw [upd_ne nDw, upd_ne (Ne.symm nbD)]; exact d8, by simp [nDw, nDp, nDt]⟩, ⟨by rw [upd_ne new', upd_ne (Ne.symm nbe)]; exact e8, by simp [new', nep, net]⟩⟩ (aw.imp fun v r h => h.mono ((mu4.sub (by simp)).trans mf))
  · obtain ⟨rows, ws, o4, o5, o6, rfl, m2, p2, t2, nd2, w2, lw, gr, aw⟩ := q
    have lw2 : rows.length = ((r1 : Int)).toNat := lw
    refine ⟨_, rfl, kq wk _ ws rows (fun a o hn ha => ?_) p2 t2 nd2 hwk ⟨w2, by simp [nwp, nwt]⟩ (by omega) gr (aw.imp fun v r h => h.drop (by simp +contextual))⟩
    exact m2 _ _ (by simp [ne_of_none ha hwk, show a ≠ p from fun z => hn (by simp [z]), show a ≠ t from fun z => hn (by simp [z])]) (mu1 _ _ hn ha)
end
end KD

/-! KDg: _law_makes, _law_drawn_ground. -/
namespace KD
open PySem PySem.Spec PyProof.Rows L2 LamX NdefX KM
/-- a row of what makes: a name, what it takes, its kind -/
def FAt (M : List Addr) (H : Hp) (q : L2.Key × V) (r : Row) : Prop := ∃ (a tk : Addr), q = (Sum.inr r.1, .ref a) ∧ Sb M H a (.tup [.ref tk, .str r.2.2]) ∧ Sb M H tk (.lst (r.2.1.map V.str))
theorem FAt.mono {M : List Addr} {H H' : Hp} {q : L2.Key × V} {r : Row} (h : FAt M H q r) (m : Mu M H H') : FAt M H' q r := by
  obtain ⟨a, tk, e1, h1, h2⟩ := h
  exact ⟨a, tk, e1, h1.mono m, h2.mono m⟩
theorem FAt.drop {M N : List Addr} {H : Hp} {q : L2.Key × V} {r : Row} (h : FAt M H q r) (s : ∀ x ∈ N, x ∈ M) : FAt N H q r := by
  obtain ⟨a, tk, e1, h1, h2⟩ := h
  exact ⟨a, tk, e1, h1.drop s, h2.drop s⟩
theorem FAt.fresh {M : List Addr} {H : Hp} {q : L2.Key × V} {r : Row} {y : Addr} (h : FAt M H q r) (hx : H y = none) : FAt (y :: M) H q r := by
  obtain ⟨a, tk, e1, h1, h2⟩ := h
  exact ⟨a, tk, e1, h1.fresh hx, h2.fresh hx⟩
/-- the row of a name -/
theorem Each.row {M : List Addr} {H : Hp} : ∀ {kvs : List (L2.Key × V)} {rows : List Row}, Each (FAt M H) kvs rows → (rows.map (·.1)).Nodup → ∀ r ∈ rows, ∃ v, valV kvs (Sum.inr r.1) = some v ∧ FAt M H (Sum.inr r.1, v) r
  | _, _, .nil, _, r, hr => nomatch hr
  | _, _, .cons (r := r0) a b, nd, r, hr => by
    have nd2 := List.nodup_cons.mp nd
    obtain ⟨a', tk, e, h1, h2⟩ := a
    rcases List.mem_cons.mp hr with rfl | hr
    · exact ⟨.ref a', by rw [e]; exact valV_pos rfl, a', tk, rfl, h1, h2⟩
    · obtain ⟨v, hv, f⟩ := b.row nd2.2 r hr
      refine ⟨v, ?_, f⟩
      rw [valV_neg]
      · exact hv
      · intro z
        rw [e] at z
        injection z with z
        exact nd2.1 (by show r0.1 ∈ _; rw [z]; exact List.mem_map.mpr ⟨r, hr, rfl⟩)
theorem Each.none {M : List Addr} {H : Hp} {x : Str} {kvs : List (L2.Key × V)} {rows : List Row} (h : Each (FAt M H) kvs rows) (nx : x ∉ rows.map (·.1)) : valV kvs (Sum.inr x) = Option.none := by
  induction h with
  | nil => rfl
  | cons a b ih =>
    obtain ⟨a', tk, e, _⟩ := a
    rw [valV_neg]
    · exact ih fun z => nx (List.mem_cons_of_mem _ z)
    · intro z
      rw [e] at z
      injection z with z
      exact nx (by rw [← z]; exact List.mem_cons_self)
theorem putK_new {kvs : List (L2.Key × V)} {k : L2.Key} {v : V} (h : valV kvs k = Option.none) : putK kvs k v = kvs ++ [(k, v)] := by
  unfold putK
  rw [valV_any, h]
  rfl
/-- kinds with their makers -/
abbrev KRow : Type := Str × List (Str × List Str)
def MkR (M : List Addr) (H : Hp) (v : V) (m : Str × List Str) : Prop := ∃ (b tk : Addr), v = .ref b ∧ Sb M H b (.tup [.str m.1, .ref tk]) ∧ Sb M H tk (.lst (m.2.map V.str))
def KdR (M : List Addr) (H : Hp) (v : V) (x : KRow) : Prop := ∃ (a mk : Addr) (ms : List V), v = .ref a ∧ Sb M H a (.tup [.str x.1, .ref mk]) ∧ Sb M H mk (.lst ms) ∧ Each (MkR M H) ms x.2
theorem MkR.mono {M : List Addr} {H H' : Hp} {v : V} {x : Str × List Str} (h : MkR M H v x) (m : Mu M H H') : MkR M H' v x := by
  obtain ⟨b, tk, e, h1, h2⟩ := h
  exact ⟨b, tk, e, h1.mono m, h2.mono m⟩
theorem MkR.drop {M N : List Addr} {H : Hp} {v : V} {x : Str × List Str} (h : MkR M H v x) (s : ∀ y ∈ N, y ∈ M) : MkR N H v x := by
  obtain ⟨b, tk, e, h1, h2⟩ := h
  exact ⟨b, tk, e, h1.drop s, h2.drop s⟩
theorem MkR.fresh {M : List Addr} {H : Hp} {v : V} {x : Str × List Str} {y : Addr} (h : MkR M H v x) (hy : H y = none) : MkR (y :: M) H v x := by
  obtain ⟨b, tk, e, h1, h2⟩ := h
  exact ⟨b, tk, e, h1.fresh hy, h2.fresh hy⟩
theorem KdR.mono {M : List Addr} {H H' : Hp} {v : V} {x : KRow} (h : KdR M H v x) (m : Mu M H H') : KdR M H' v x := by
  obtain ⟨a, mk, ms, e, h1, h2, h3⟩ := h
  exact ⟨a, mk, ms, e, h1.mono m, h2.mono m, h3.imp fun v r h => h.mono m⟩
theorem KdR.drop {M N : List Addr} {H : Hp} {v : V} {x : KRow} (h : KdR M H v x) (s : ∀ y ∈ N, y ∈ M) : KdR N H v x := by
  obtain ⟨a, mk, ms, e, h1, h2, h3⟩ := h
  exact ⟨a, mk, ms, e, h1.drop s, h2.drop s, h3.imp fun v r h => h.drop s⟩
theorem KdR.fresh {M : List Addr} {H : Hp} {v : V} {x : KRow} {y : Addr} (h : KdR M H v x) (hy : H y = none) : KdR (y :: M) H v x := by
  obtain ⟨a, mk, ms, e, h1, h2, h3⟩ := h
  exact ⟨a, mk, ms, e, h1.fresh hy, h2.fresh hy, h3.imp fun v r h => h.fresh hy⟩
def mrs (x : KRow) : List Row := x.2.map fun m => (m.1, m.2, x.1)
def mrsA (l : List KRow) : List Row := l.flatMap mrs
def spMakes : Sp := fun vs H Q _ => ∃ (kk wk : Addr) (kds : List KRow) (us ws : List V) (rows : List Row), vs = [.ref kk, .ref wk] ∧ H kk = some (.lst us) ∧ H wk = some (.lst ws) ∧ (mrsA kds ++ rows).length ≤ 16 ∧ Each (KdR [] H) us kds ∧ Each (WAt [] H) ws rows ∧ ((mrsA kds ++ rows).map (·.1)).Nodup ∧
  ∀ (d : Addr) (H' : Hp) (kvs : List (L2.Key × V)), Same H H' → H d = none → H' d = some (.dK kvs) → Each (FAt [d] H') kvs (mrsA kds ++ rows) → Q (.ref d) H'
abbrev nMk : List Str := ["_law_kinds_here", "_law_works_here", "_law_makes_here", "_law_kind", "_law_makers", "_law_maker", "_law_takes", "_law_work"]
theorem scMk : FnScope nMk ["_law_kinds_here", "_law_works_here"] (defScope (top 49)) := ⟨rfl, rfl, rfl, by decide +kernel, rfl, by decide +kernel, by decide +kernel⟩
section
variable {P : Program} {w : World} {K : PySem.W.Frag} {mg : Str → Option Value} {base : Heap} {f fr' fw fk fv : Addr} {fd fdd fdw fdk fdv : FuncData}
theorem ok_makes (F : Fun K "_law_makes" "_law_makes" (top 49) f fd) (k : Nat) : FnOk P w K mg base CX0 (1 + k) f fd ["_law_kinds_here", "_law_works_here"] spMakes := by
  rw [show 1 + k = (0 + k) + 1 by omega]
  refine F.ok scMk (fun vs H Q E h => ?_) (fun cdv A0 outer s H vs Q E hr hq => ?_)
  · obtain ⟨kk, wk, _, _, _, _, rfl, _⟩ := h
    rfl
  obtain ⟨kk, wk, kds, us, ws, rows, rfl, hk, hw, lw, uk, aw, nd, kq⟩ := hq
  refine ⟨_, /-T-/(pss_cons (ps_set (i := 2) scMk.nd rfl (Or.inl rfl) pe_dnewK)
      (pss_cons (ps_for PassesOwn.never rfl (pi_list (pv 0)) (pg_tup rfl (pgs_cons (pg_name (i := 3) scMk.nd rfl (Or.inl rfl)) (pgs_cons (pg_name (i := 4) scMk.nd rfl (Or.inl rfl)) pgs_nil))) (pss_one
        (ps_for PassesOwn.never rfl (pi_list (pv 4)) (pg_tup rfl (pgs_cons (pg_name (i := 5) scMk.nd rfl (Or.inl rfl)) (pgs_cons (pg_name (i := 6) scMk.nd rfl (Or.inl rfl)) pgs_nil))) (pss_one
        (ps_dput (hu_of hr) (pv 2) (pv 5) (pe_tup (pa_cons (pv 6) (pa_cons (pv 3) pa_nil))) rfl)))))
      (pss_cons (ps_for PassesOwn.never rfl (pi_list (pv 1)) (pg_name (i := 7) scMk.nd rfl (Or.inl rfl)) (pss_one
        (ps_dput (hu_of hr) (pv 2) (pe_ix ix_tup (pv 7) pe_int (fun _ _ => rfl)) (pe_tup (pa_cons (pe_ix ix_tup (pv 7) pe_int (fun _ _ => rfl)) (pa_cons (pe_ix ix_tup (pv 7) pe_int (fun _ _ => rfl)) pa_nil))) rfl)))
      (pss_one
        (ps_ret (pv 2))))))/-E-/, ?_⟩
/-B-/
  intro d hd
  have s0 : Same H (upd H d (.dK [])) := Same.upd hd
  have d0 : upd H d (.dK []) d = some (.dK []) := upd_same
  have uk0 : Each (KdR [d] (upd H d (.dK []))) us kds := uk.imp fun v n h => (h.fresh hd).mono (.same s0)
  have aw0 : Each (WAt [d] (upd H d (.dK []))) ws rows := aw.imp fun v n h => (h.fresh hd).mono (.same s0)
  have nkd : kk ∉ [d] := by simp [ne_of_none hk hd]
  have nwd : wk ∉ [d] := by simp [ne_of_none hw hd]
  have hk0 := s0 _ _ hk
  have hw0 := s0 _ _ hw
  generalize upd H d (.dK []) = H0 at s0 d0 uk0 aw0 hk0 hw0 ⊢
  have luk := uk.length
  have laws := aw.length
  refine ⟨_, rfl, kk, rfl, ⟨_, SqL.of hk0⟩, for_list (xs := us) (fun i σ' H' => ∃ (kvs : List (L2.Key × V)) (o3 o4 o5 o6 : Option V), σ' = [some (V.ref kk), some (V.ref wk), some (V.ref d), o3, o4, o5, o6, none] ∧ Mu [d] H0 H' ∧ H' d = some (.dK kvs) ∧ Each (FAt [d] H') kvs (mrsA (kds.take i)))
    ⟨[], _, _, _, _, rfl, .refl H0, d0, .nil⟩ (fun i σ' H' _ q => ?_) (fun i v σ' H1 hv q => ?_) (fun σ' H1 q => ?_)⟩
  · obtain ⟨_, _, _, _, _, _, m, _⟩ := q
    exact SqL.of (m _ _ nkd hk0)
  · obtain ⟨kvs, o3, o4, o5, o6, rfl, m1, d1, f1⟩ := q
    obtain ⟨x, hx, a, mk, ms, rfl, ha0, hmk0, hms0⟩ := uk0.get hv
    have ha := ha0.mono m1
    have hmk := hmk0.mono m1
    have tk0 : kds.take (i + 1) = kds.take i ++ [x] := by
      rw [List.take_succ, hx]
      rfl
    have eA : mrsA (kds.take (i + 1)) = mrsA (kds.take i) ++ mrs x := by
      rw [tk0]
      show List.flatMap mrs _ = List.flatMap mrs _ ++ _
      rw [List.flatMap_append, List.flatMap_cons, List.flatMap_nil, List.append_nil]
    obtain ⟨rest, er⟩ : ∃ rest, mrsA kds ++ rows = (mrsA (kds.take i) ++ mrs x) ++ rest := by
      refine ⟨mrsA (kds.drop (i + 1)) ++ rows, ?_⟩
      rw [← eA, ← List.append_assoc]
      congr 1
      show List.flatMap mrs _ = List.flatMap mrs _ ++ List.flatMap mrs _
      rw [← List.flatMap_append, List.take_append_drop]
    have ndA : ((mrsA (kds.take i) ++ mrs x).map (·.1)).Nodup := by
      rw [er, List.map_append] at nd
      exact (List.nodup_append.mp nd).1
    have lA : (mrsA (kds.take i) ++ mrs x).length ≤ 16 := by
      rw [er, List.length_append] at lw
      omega
    have lms := hms0.length
    refine ⟨_, _, rfl, SqT.of ha.1, rfl, _, _, rfl, _, _, rfl, rfl, ?_⟩
    refine ⟨_, rfl, mk, rfl, ⟨_, SqL.of hmk.1⟩, for_list (xs := ms) (fun j σ' H' => ∃ (kvs : List (L2.Key × V)) (o5 o6 : Option V), σ' = [some (V.ref kk), some (V.ref wk), some (V.ref d), some (V.str x.1), some (V.ref mk), o5, o6, none] ∧ Mu [d] H0 H' ∧ H' d = some (.dK kvs) ∧ Each (FAt [d] H') kvs (mrsA (kds.take i) ++ (mrs x).take j))
      ⟨kvs, _, _, rfl, m1, d1, by rw [List.take_zero, List.append_nil]; exact f1⟩ (fun j σ' H' _ q => ?_) (fun j v2 σ' H2 hv2 q => ?_) (fun σ' H2 q => ?_)⟩
    · obtain ⟨_, _, _, _, m, _⟩ := q
      exact SqL.of (hmk0.mono m).1
    · obtain ⟨kvs2, o5, o6, rfl, m2, d2, f2⟩ := q
      obtain ⟨m, hm, b, tk, rfl, hb0, htk0⟩ := hms0.get hv2
      have hb := hb0.mono m2
      have htk := htk0.mono m2
      have lk := f2.length
      have hr : (mrs x)[j]? = some (m.1, m.2, x.1) := by
        unfold mrs
        rw [List.getElem?_map, hm]
        rfl
      have tk1 : (mrs x).take (j + 1) = (mrs x).take j ++ [(m.1, m.2, x.1)] := by
        rw [List.take_succ, hr]
        rfl
      have lk2 : kvs2.length ≤ 16 := by
        rw [List.length_append, List.length_take] at lk
        rw [List.length_append] at lA
        omega
      have nx : m.1 ∉ (mrsA (kds.take i) ++ (mrs x).take j).map (·.1) := fun z => by
        have nd2 : ((mrsA (kds.take i) ++ (mrs x).take (j + 1)).map (·.1)).Nodup := ndA.sublist ((List.Sublist.append_left (List.take_sublist _ _) _).map _)
        rw [tk1, ← List.append_assoc, List.map_append] at nd2
        exact (List.nodup_append.mp nd2).2.2 m.1 z m.1 (by simp) rfl
      refine ⟨_, _, rfl, SqT.of hb.1, rfl, _, _, rfl, _, _, rfl, rfl, ?_⟩
      refine ⟨_, rfl, _, rfl, by show 2 ≤ sizeLine; decide, fun c hc => ?_⟩
      have nc : c ≠ d := Ne.symm (ne_of_none d2 hc)
      have pk : putK kvs2 (Sum.inr m.1) (.ref c) = kvs2 ++ [(Sum.inr m.1, .ref c)] := putK_new (f2.none nx)
      have mm : Mu [d] H2 (upd (upd H2 c (.tup [.ref tk, .str x.1])) d (.dK (kvs2 ++ [(Sum.inr m.1, .ref c)]))) := (Mu.new hc).trans (.upd (by simp))
      refine ⟨_, rfl, _, rfl, d, _, rfl, DPut.k (k := Sum.inr m.1) (kvs := kvs2) (by rw [upd_ne (Ne.symm nc)]; exact d2) ?_, ?_⟩
      · exact Nat.lt_of_le_of_lt (show kvs2.length ≤ 1000 by omega) (by decide)
      rw [pk]
      refine ⟨_, _, _, rfl, m2.trans mm, upd_same, ?_⟩
      rw [tk1, ← List.append_assoc]
      exact Each.snoc ⟨c, tk, rfl, ⟨by rw [upd_ne nc, upd_same], by simp [nc]⟩, htk.mono mm⟩ (f2.imp fun q r h => h.mono mm)
    · obtain ⟨kvs2, o5, o6, rfl, m2, d2, f2⟩ := q
      refine ⟨kvs2, _, _, _, _, rfl, m2, d2, ?_⟩
      have lx : ms.length = (mrs x).length := by
        unfold mrs
        rw [List.length_map, lms]
      rw [lx, List.take_length, ← eA] at f2
      exact f2
  · obtain ⟨kvs0, o3, o4, o5, o6, rfl, m1, d1, f1⟩ := q
    rw [luk, List.take_length] at f1
    have lws := aw.length
    refine ⟨_, rfl, wk, rfl, ⟨_, SqL.of (m1 _ _ nwd hw0)⟩, for_list (xs := ws) (fun i σ' H' => ∃ (kvs : List (L2.Key × V)) (o7 : Option V), σ' = [some (V.ref kk), some (V.ref wk), some (V.ref d), o3, o4, o5, o6, o7] ∧ Mu [d] H0 H' ∧ H' d = some (.dK kvs) ∧ Each (FAt [d] H') kvs (mrsA kds ++ rows.take i))
      ⟨kvs0, _, rfl, m1, d1, by rw [List.take_zero, List.append_nil]; exact f1⟩ (fun i σ' H' _ q => ?_) (fun i v σ' H2 hv q => ?_) (fun σ' H2 q => ?_)⟩
    · obtain ⟨_, _, _, m, _⟩ := q
      exact SqL.of (m _ _ nwd hw0)
    · obtain ⟨kvs, o7, rfl, m2, d2, f2⟩ := q
      obtain ⟨r, hr, b, tk, e, rfl, hb0, htk0, _⟩ := aw0.get hv
      have hb := hb0.mono m2
      have htk := htk0.mono m2
      have lk := f2.length
      have lk2 : kvs.length ≤ 16 := by
        rw [List.length_append, List.length_take] at lk
        rw [List.length_append] at lw
        omega
      refine ⟨_, rfl, _, _, _, _, rfl, rfl, SqT.of hb.1, rfl, _, rfl, _, _, _, _, rfl, rfl, SqT.of hb.1, rfl, by show 2 ≤ sizeLine; decide, fun c hc => ?_⟩
      have nc : c ≠ d := Ne.symm (ne_of_none d2 hc)
      have nbc : b ≠ c := ne_of_none hb.1 hc
      have tk1 : rows.take (i + 1) = rows.take i ++ [r] := by
        rw [List.take_succ, hr]
        rfl
      have nx : r.1 ∉ (mrsA kds ++ rows.take i).map (·.1) := fun z => by
        have nd2 : ((mrsA kds ++ rows.take (i + 1)).map (·.1)).Nodup := nd.sublist ((List.Sublist.append_left (List.take_sublist _ _) _).map _)
        rw [tk1, ← List.append_assoc, List.map_append] at nd2
        exact (List.nodup_append.mp nd2).2.2 r.1 z r.1 (by simp) rfl
      have pk : putK kvs (Sum.inr r.1) (.ref c) = kvs ++ [(Sum.inr r.1, .ref c)] := putK_new (f2.none nx)
      have mm : Mu [d] H2 (upd (upd H2 c (.tup [.ref tk, .str r.2.2])) d (.dK (kvs ++ [(Sum.inr r.1, .ref c)]))) := (Mu.new hc).trans (.upd (by simp))
      refine ⟨_, rfl, _, rfl, _, _, _, _, rfl, rfl, SqT.of (by rw [upd_ne nbc]; exact hb.1), rfl, d, _, rfl, DPut.k (k := Sum.inr r.1) (kvs := kvs) (by rw [upd_ne (Ne.symm nc)]; exact d2) ?_, ?_⟩
      · exact Nat.lt_of_le_of_lt (show kvs.length ≤ 1000 by omega) (by decide)
      rw [pk]
      refine ⟨_, _, rfl, m2.trans mm, upd_same, ?_⟩
      rw [tk1, ← List.append_assoc]
      exact Each.snoc ⟨c, tk, rfl, ⟨by rw [upd_ne nc, upd_same], by simp [nc]⟩, htk.mono mm⟩ (f2.imp fun q r h => h.mono mm)
    · obtain ⟨kvs, o7, rfl, m2, d2, f2⟩ := q
      rw [lws, List.take_length] at f2
      exact ⟨_, rfl, kq d _ kvs (fun a o ha => m2 _ _ (by simp [ne_of_none ha hd]) (s0 _ _ ha)) hd d2 f2⟩
end
end KD

/-! KDh: _law_term. -/
namespace KD
open PySem PySem.Spec PyProof.Rows L2 LamX NdefX KM
theorem lc_keys {d : Addr} {od : Obj} {kvs : List (L2.Key × V)} {g : TG} {tt : TT} {te : TE} {vs : List Nat} {σ : L2.St} {H1 : Hp} {D : Addr} {Qd : Hp → Prop} (Pv : Nat → Hp → Prop) (h0 : Pv 0 (upd H1 D (.lst []))) (hl : ∀ i H, i ≤ kvs.length → Pv i H → H d = some (.frz od (.dK kvs)))
    (hs : ∀ i k v H, kvs[i]? = some (k, v) → Pv i H → g (kV k) (wipe σ vs) H fun σ2 H2 => wipe σ2 vs = wipe σ vs ∧ tt σ2 H2 fun b H3 =>
      if b = true then te σ2 H3 fun y H4 => ∃ acc, H4 D = some (.lst acc) ∧ acc.length < sizeLine ∧ Pv (i + 1) (upd H4 D (.lst (acc ++ [y]))) else Pv (i + 1) H3) (hd : ∀ H, Pv kvs.length H → Qd H) :
    ∃ W : Nat → Nat → Hp → Prop, (∃ m, W 0 m (upd H1 D (.lst []))) ∧ ∀ i m H, W i m H →
      ((Itk d od kvs).stop i H ∧ Qd H) ∨ ((Itk d od kvs).go i H ∧ ∃ Nx : Hp → Prop, (∀ H', Nx H' → ∃ m', m' < m ∧ W (i + 1) m' H') ∧ ∀ y H', (Itk d od kvs).yld i H y H' → g y (wipe σ vs) H' fun σ2 H2 => wipe σ2 vs = wipe σ vs ∧ tt σ2 H2 fun b H3 =>
        if b = true then te σ2 H3 fun y H4 => ∃ acc, H4 D = some (.lst acc) ∧ acc.length < sizeLine ∧ Nx (upd H4 D (.lst (acc ++ [y]))) else Nx H3) := by
  refine ⟨fun i m H => m = kvs.length - i ∧ i ≤ kvs.length ∧ Pv i H, ⟨kvs.length, by simp, Nat.zero_le _, h0⟩, ?_⟩
  rintro i m H ⟨rfl, hi, p⟩
  have q := hl i H hi p
  by_cases hlt : i < kvs.length
  · refine .inr ⟨⟨q, hlt⟩, Pv (i + 1), fun H' p' => ⟨kvs.length - (i + 1), by omega, rfl, hlt, p'⟩, fun y H' yy => ?_⟩
    obtain ⟨e, k, v, hk, ey⟩ := yy
    subst e ey
    exact hs i k v _ hk p
  · have e : i = kvs.length := by omega
    subst e
    exact .inl ⟨⟨q, Nat.le_refl _⟩, hd H p⟩
theorem valV_mem {k : L2.Key} : ∀ {kvs : List (L2.Key × V)} {v : V}, (k, v) ∈ kvs → ∃ v', valV kvs k = some v' ∧ (k, v') ∈ kvs
  | q :: kvs, v, h => by
    by_cases e : q.1 = k
    · exact ⟨q.2, valV_pos e, by rw [← e]; exact List.mem_cons_self⟩
    · rcases List.mem_cons.mp h with h | h
      · exact absurd (by rw [← h]) e
      · obtain ⟨v', h1, h2⟩ := valV_mem h
        exact ⟨v', by rw [valV_neg e]; exact h1, List.mem_cons_of_mem _ h2⟩
/-- of the kind kd, where things of the kinds as stand around -/
def ty (rows : List Row) (ns as : List Str) : Nat → Str → T → Prop
  | 0, _, _ => False
  | _ + 1, kd, .nam x k => x ∈ ns ∧ k = kd
  | _ + 1, kd, .bnd n => as[n]? = some kd
  | h + 1, kd, .mad f ps => ∃ ts, ((f, ts, kd) : Row) ∈ rows ∧ ps.length = ts.length ∧ ∀ (i : Nat) (p : T) (k : Str), ps[i]? = some p → ts[i]? = some k → ty rows ns as h k p
  | _ + 1, _, _ => False
theorem ty_le {rows : List Row} {ns as : List Str} : ∀ {h h' : Nat} {kd : Str} {t : T}, ty rows ns as h kd t → h ≤ h' → ty rows ns as h' kd t
  | 0, _, _, _, z, _ => z.elim
  | h + 1, 0, _, _, _, l => absurd l (by omega)
  | h + 1, h' + 1, _, .nam _ _, q, _ => q
  | h + 1, h' + 1, _, .bnd _, q, _ => q
  | h + 1, h' + 1, _, .var _, q, _ => q
  | h + 1, h' + 1, kd, .mad f ps, q, l => by
    obtain ⟨ts, h1, h2, h3⟩ := q
    exact ⟨ts, h1, h2, fun i p k e1 e2 => ty_le (h3 i p k e1 e2) (by omega)⟩
  | h + 1, h' + 1, _, .bin _ _ _, q, _ => q
  | h + 1, h' + 1, _, .bnn _ _ _ _, q, _ => q
  | h + 1, h' + 1, _, .nod _ _, q, _ => q
/-- what a drawn term is -/
def Lf (rows : List Row) (ns ks as : List Str) (kd : Str) (h : Nat) (t : T) : Prop := ok ns ks h as.length t ∧ nz h t ∧ (as.length = 0 → tm h t) ∧ ty rows ns as h kd t
theorem Lf.le {rows : List Row} {ns ks as : List Str} {kd : Str} {h h' : Nat} {t : T} (l : Lf rows ns ks as kd h t) (e : h ≤ h') : Lf rows ns ks as kd h' t := ⟨ok_le l.1 e (Nat.le_refl _), nz_le l.2.1 e, fun z => tm_le (l.2.2.1 z) e, ty_le l.2.2.2 e⟩
theorem pick_list {K : PySem.W.Frag} {σ : L2.St} {H : Hp} {Qe : VK} {p q : Addr} {lv : List V} {i : Nat} (h0 : σ[0]? = some (some (V.ref p))) (h1 : σ[i]? = some (some (V.ref q))) (hp : StA H p) (hq : H q = some (.lst lv)) (nq : q ≠ p) (l1 : 0 < lv.length) (l2 : lv.length ≤ 1000)
    (k : ∀ v H', v ∈ lv → ButS p H H' → StA H' p → Qe v H') : (tOp (rIxL K) (tVar i) (tCall spDraw [] E0 (tCons (tVar 0) (tCons (tCB (rLenK K) (tCons (tVar i) tNil)) tNil)))) σ H Qe := by
  refine ⟨_, h1, _, h0, _, h1, _, _, rfl, .inl (SqL.of hq), p, lv.length, rfl, hp, l1, by omega, fun r H2 l b2 p2 => ?_⟩
  obtain ⟨v, hv⟩ : ∃ v, lv[r]? = some v := ⟨_, List.getElem?_eq_getElem l⟩
  exact ⟨_, _, _, _, rfl, rfl, SqL.of (b2 _ _ nq hq), atI_nat hv, k v H2 (List.mem_of_getElem? hv) b2 p2⟩
theorem tup_mu {p D : Addr} {H H' : Hp} {xs : List V} (m : Mu [D, p] H H') (hp : StA H p) (hD : H D = some (.lst xs)) : TupS H H' := fun b ys e => m _ _ (by
  obtain ⟨_, _, z, _⟩ := hp
  simp [ne_of e z (by intro q; cases q), ne_of e hD (by intro q; cases q)]) e
/-- what is a leaf, or a term made -/
def spTerm (h : Nat) : Sp := fun vs H Q _ => ∃ (p d nl ar : Addr) (od : Obj) (kind : Str) (dp : Nat) (kvs : List (L2.Key × V)) (rows : List Row) (ns ks as : List Str), vs = [.ref p, .ref d, .str kind, .ref nl, .ref ar, .int dp] ∧ dp < h ∧ StA H p ∧ H d = some (.frz od (.dK kvs)) ∧ rows.length ≤ 16 ∧ Each (FAt [p] H) kvs rows ∧ (rows.map (·.1)).Nodup ∧ (∀ r ∈ rows, RowG ks r) ∧
  Sb [p] H nl (.lst (ns.map V.str)) ∧ 0 < ns.length ∧ ns.length ≤ 4 ∧ (∀ x ∈ ns, G x) ∧ Sb [p] H ar (.lst (as.map V.str)) ∧ as.length ≤ 4 ∧ kind ∈ ks ∧ (∀ x ∈ ks, G x) ∧
  ∀ v' t H', ButS p H H' → StA H' p → At H' v' t → Lf rows ns ks as kind (dp + 1) t → Q v' H'
abbrev sTe : Stmt := top 51
abbrev nTe : List Str := ["_law_state_here", "_law_makes_here", "_law_kind", "_law_names", "_law_around", "_law_deep", "_law_leaves", "_law_f", "_law_made", "_law_parts", "_law_k", "_law_x", "_law_one"]
abbrev pTe : List Str := ["_law_state_here", "_law_makes_here", "_law_kind", "_law_names", "_law_around", "_law_deep"]
theorem scTe : FnScope nTe pTe (defScope sTe) := ⟨rfl, rfl, rfl, by decide +kernel, rfl, by decide +kernel, by decide +kernel⟩
section
variable {P : Program} {w : World} {K : PySem.W.Frag} {mg : Str → Option Value} {base : Heap} {f fr' : Addr} {fd fdd : FuncData}
theorem ok_term (F : Fun K "_law_term" "_law_term" sTe f fd) (bt : Binds K fd pTe []) (mt : mg "_law_term" = some (.ref f)) (Fd : Fun K "_law_draw" "_law_draw" (top 45) fr' fdd) (bd : Binds K fdd ["_law_state_here", "_law_many"] []) (md : mg "_law_draw" = some (.ref fr')) (X : TxtL mg) : ∀ h, FnOk P w K mg base CX0 (2 + h) f fd pTe (spTerm h)
  | 0 => by
    refine F.ok scTe (fun vs H Q E h => ?_) (fun cdv A0 outer s H vs Q E hr h => ?_)
    · obtain ⟨_, _, _, _, _, _, _, _, _, _, _, _, rfl, _⟩ := h
      rfl
    · obtain ⟨_, _, _, _, _, _, _, _, _, _, _, _, _, z, _⟩ := h
      exact absurd z (Nat.not_lt_zero _)
  | h + 1 => by
    have IH := ok_term F bt mt Fd bd md X h
    rw [show 2 + (h + 1) = (2 + h) + 1 by omega]
    refine F.ok scTe (fun vs H Q E h => ?_) (fun cdv A0 outer s H vs Q E hr hh => ?_)
    · obtain ⟨_, _, _, _, _, _, _, _, _, _, _, _, rfl, _⟩ := h
      rfl
    obtain ⟨p, d, nl, ar, od, kind, dp, kvs, rows, ns, ks, as, rfl, hdp, hp, hd, lk, fk, ndr, rgk, hn, n0, n4, gn, ha, a4, hkd, gk, kq⟩ := hh
    refine ⟨_, /-T-/(pss_cons (ps_setLc (i := 6) (own := [("_law_k", 10)]) (g := gName 10) (tt := tTest (tOp rEq (tOp (rIxL K) (tVar 4) (tVar 10)) (tVar 2))) (te := tTup (tCons (tC (V.str "bound")) (tCons (tVar 10) tNil))) rfl scTe.nd rfl rfl rfl (pi_range1 rfl X.rng (pa_cons (pe_callB call_len_seq (by rfl) X.len PySem.boot_len (pa_cons (pv 4) pa_nil)) pa_nil)) (blkOk_by (N := nTe) (sc := defScope (top 51)) (by decide +kernel)) (fun _ _ _ _ _ => pg_name (i := 10) scTe.nd rfl (Or.inl rfl)) (fun _ _ _ _ _ => pts_one (pt_cmpR op_eq (pe_ix ix_list (pv 4) (pv 10) (fun _ _ => rfl)) (pv 2) (nomark _))) (fun _ _ _ _ _ => (pe_tup (pa_cons pe_str (pa_cons (pv 10) pa_nil)))))
      (pss_cons (ps_set (i := 6) scTe.nd rfl (Or.inl rfl) (pe_op op_cat (pv 6) (pe_lc (own := [("_law_x", 11)]) (g := gName 11) (tt := tYes) rfl scTe.nd (pi_list (pv 3)) (blkOk_by (N := nTe) (sc := defScope (top 51)) (by decide +kernel)) (fun _ _ _ _ _ => pg_name (i := 11) scTe.nd rfl (Or.inl rfl)) (fun _ _ _ _ _ => pts_nil) (fun _ _ _ _ _ => (pe_tup (pa_cons pe_str (pa_cons (pv 11) (pa_cons (pv 2) pa_nil))))))))
      (pss_cons (ps_setLc (i := 8) (own := [("_law_f", 7)]) (g := gName 7) (tt := tTest (tOp rEq (tOp (rIxT K) (tDGet (tVar 1) (tVar 7)) (tC (V.int 1))) (tVar 2))) (te := tVar 7) rfl scTe.nd rfl rfl rfl (pi_keys (pv 1)) (blkOk_by (N := nTe) (sc := defScope (top 51)) (by decide +kernel)) (fun _ _ _ _ _ => pg_name (i := 7) scTe.nd rfl (Or.inl rfl)) (fun _ _ _ _ _ => pts_one (pt_cmpR op_eq (pe_ix ix_tup (pe_dget (hu_of hr) (pv 1) (pv 7) (fun _ _ => rfl)) pe_int (fun _ _ => rfl)) (pv 2) (nomark _))) (fun _ _ _ _ _ => (pv 7)))
      (pss_cons (ps_if (PW.pt (pw_and (pt_cmpR (op_neD (u64 hr)) (pv 8) (pe_lst pa_nil) (nomark _)) (pw_and (pt_cmpR op_gt (pv 5) pe_int (nomark _)) (pw_and1 (pt_cmpR op_gt (pe_call (ok_draw Fd 0) (hr.mono (by omega)) rfl md Fd.kp bd .nil pass0 (pa_cons (pv 0) (pa_cons pe_int pa_nil))) pe_int (nomark _)))))) (pss_cons (ps_set (i := 7) scTe.nd rfl (Or.inl rfl) (pe_ix ix_list (pv 8) (pe_call (ok_draw Fd 0) (hr.mono (by omega)) rfl md Fd.kp bd .nil pass0 (pa_cons (pv 0) (pa_cons (pe_callB call_len_seq (by rfl) X.len PySem.boot_len (pa_cons (pv 8) pa_nil)) pa_nil))) (fun _ _ => rfl)))
      (pss_cons (ps_setLc (i := 9) (own := [("_law_one", 12)]) (g := gName 12) (tt := tYes) (te := tCall (spTerm h) [] E0 (tCons (tVar 0) (tCons (tVar 1) (tCons (tVar 12) (tCons (tVar 3) (tCons (tVar 4) (tCons (tOp (rI0 fun i j => .int (i - j)) (tVar 5) (tC (V.int 1))) tNil))))))) rfl scTe.nd rfl rfl rfl (pi_list (pe_ix ix_tup (pe_dget (hu_of hr) (pv 1) (pv 7) (fun _ _ => rfl)) pe_int (fun _ _ => rfl))) (blkOk_by (N := nTe) (sc := defScope (top 51)) (by decide +kernel)) (fun _ _ _ _ _ => pg_name (i := 12) scTe.nd rfl (Or.inl rfl)) (fun _ _ _ _ _ => pts_nil) (fun _ _ _ _ _ => (pe_call (IH) hr rfl mt F.kp bt .nil pass0 (pa_cons (pv 0) (pa_cons (pv 1) (pa_cons (pv 12) (pa_cons (pv 3) (pa_cons (pv 4) (pa_cons (pe_op op_sub (pv 5) pe_int) pa_nil)))))))))
      (pss_one
        (ps_ret (pe_tup (pa_cons pe_str (pa_cons (pv 7) (pa_cons (pe_callTy call_tuple_of (by rfl) X.tuple boot_tuple (pa_cons (pv 9) pa_nil)) pa_nil)))))))) pss_nil)
      (pss_one
        (ps_ret (pe_ix ix_list (pv 6) (pe_call (ok_draw Fd 0) (hr.mono (by omega)) rfl md Fd.kp bd .nil pass0 (pa_cons (pv 0) (pa_cons (pe_callB call_len_seq (by rfl) X.len PySem.boot_len (pa_cons (pv 6) pa_nil)) pa_nil))) (fun _ _ => rfl))))))))/-E-/, ?_⟩
/-B-/
    have nlp : nl ≠ p := fun z => hn.2 (by simp [z])
    have nap : ar ≠ p := fun z => ha.2 (by simp [z])
    have ndp : d ≠ p := by
      intro e
      obtain ⟨_, _, z, _⟩ := hp
      rw [e, z] at hd
      cases hd
    have gkd := gk kind hkd
    have lkv := fk.length
    refine ⟨_, rfl, _, _, rfl, .inl (SqL.of ha.1), _, rfl, ?_, ?_, fun D hD => ?_⟩
    · omega
    · rw [List.length_map]; omega
    rw [List.length_map]
    refine lc_range (fun i H' => Same H H' ∧ ∃ vs, H' D = some (.lst vs) ∧ vs.length ≤ i ∧ ∀ v ∈ vs, ∃ t, At H' v t ∧ Lf rows ns ks as kind 1 t) ⟨Same.upd hD, [], upd_same, Nat.le_refl _, (fun v hv => nomatch hv)⟩ (fun i H' hi q => ?_) (fun H1 q => ?_)
    · obtain ⟨s1, vs, hv, lv, av⟩ := q
      have i4 : i < as.length := by
        have hi : i < ((as.length : Nat) : Int).toNat := hi
        omega
      obtain ⟨y, hy⟩ : ∃ y, as[i]? = some y := ⟨_, List.getElem?_eq_getElem i4⟩
      rw [Int.zero_add]
      refine ⟨rfl, _, rfl, _, rfl, _, _, _, _, rfl, rfl, SqL.of (s1 _ _ ha.1), atI_nat (v := V.str y) (by rw [List.getElem?_map, hy] <;> rfl), _, rfl, rfl, _, rfl, ite2 (fun e => ?_) (fun e => ?_)⟩
      · refine ⟨_, rfl, by show 2 ≤ sizeLine; decide, fun q hq => ?_⟩
        have s2 : Same H' (upd H' q (.tup [V.str "bound", V.int (i : Int)])) := Same.upd hq
        refine ⟨vs, s2 _ _ hv, ?_, fun x u hx => ?_, vs ++ [V.ref q], upd_same, by rw [List.length_append]; exact Nat.succ_le_succ lv, fun v hv2 => ?_⟩
        · exact Nat.lt_of_le_of_lt (show vs.length ≤ 1000 by omega) (by decide)
        · rw [upd_ne (ne_of_none hx hD)]
          exact s2 _ _ (s1 _ _ hx)
        · rcases List.mem_append.mp hv2 with h | h
          · obtain ⟨t, tA, tL⟩ := av v h
            exact ⟨t, (tA.mono (.same s2)).mono (TupS.lst (s2 _ _ hv)), tL⟩
          · rw [List.mem_singleton.mp h]
            have yk : y = kind := by
              have q := of_decide_eq_true e
              injection q
            refine ⟨.bnd i, (At.bnd upd_same).mono (TupS.lst (s2 _ _ hv)), i4, trivial, (fun z => absurd i4 (by omega)), yk ▸ hy⟩
      · exact ⟨s1, vs, hv, Nat.le_succ_of_le lv, av⟩
    obtain ⟨s1, vs, hv, lv, av⟩ := q
    have lv4 : vs.length ≤ 4 := by
      have lv : vs.length ≤ ((as.length : Nat) : Int).toNat := lv
      omega
    refine ⟨_, rfl, _, rfl, nl, rfl, ⟨_, SqL.of (s1 _ _ hn.1)⟩, fun D2 hD2 => lc_list (xs := ns.map V.str) (fun i H' => Same H1 H' ∧ ∃ us, H' D2 = some (.lst us) ∧ us.length = i ∧ ∀ v ∈ us, ∃ t, At H' v t ∧ Lf rows ns ks as kind 1 t)
      ⟨Same.upd hD2, [], upd_same, rfl, (fun v hv => nomatch hv)⟩ (fun i H' _ q => SqL.of (q.1 _ _ (s1 _ _ hn.1))) (fun i x H' hx q => ?_) (fun H2 q => ?_)⟩
    · obtain ⟨s2, us, hu, lu, au⟩ := q
      obtain ⟨y, hy, rfl⟩ : ∃ y, ns[i]? = some y ∧ x = V.str y := by
        rw [List.getElem?_map] at hx
        cases e : ns[i]? with
        | none => rw [e] at hx; exact nomatch hx
        | some y => rw [e] at hx; exact ⟨y, rfl, (Option.some.inj hx).symm⟩
      have i4 : i < ns.length := (List.getElem?_eq_some_iff.mp hy).1
      have yn := List.mem_of_getElem? hy
      refine ⟨rfl, ?_⟩
      unfold tYes
      simp only [if_true]
      refine ⟨_, rfl, _, rfl, by show 3 ≤ sizeLine; decide, fun q hq => ?_⟩
      have s3 : Same H' (upd H' q (.tup [V.str "name", V.str y, V.str kind])) := Same.upd hq
      refine ⟨us, s3 _ _ hu, ?_, fun x u hx => ?_, us ++ [V.ref q], upd_same, by rw [List.length_append, lu] <;> rfl, fun v hv2 => ?_⟩
      · exact Nat.lt_of_le_of_lt (show us.length ≤ 1000 by omega) (by decide)
      · rw [upd_ne (ne_of_none hx hD2)]
        exact s3 _ _ (s2 _ _ hx)
      · rcases List.mem_append.mp hv2 with h | h
        · obtain ⟨t, tA, tL⟩ := au v h
          exact ⟨t, (tA.mono (.same s3)).mono (TupS.lst (s3 _ _ hu)), tL⟩
        · rw [List.mem_singleton.mp h]
          exact ⟨.nam y kind, (At.nam upd_same).mono (TupS.lst (s3 _ _ hu)), ⟨⟨yn, gn y yn⟩, hkd, gkd⟩, trivial, (fun _ => ⟨gn y yn, gkd⟩), yn, rfl⟩
    obtain ⟨s2, us, hu, lu, au⟩ := q
    rw [List.length_map] at lu
    refine ⟨D, D2, vs, us, rfl, rfl, s2 _ _ hv, hu, ?_, fun q6 hq6 => ?_⟩
    · exact Nat.le_trans (show vs.length + us.length ≤ 1000 by omega) (by decide)
    have s3 : Same H (upd H2 q6 (.lst (vs ++ us))) := (s1.trans s2).trans (Same.upd hq6)
    have h6 : upd H2 q6 (.lst (vs ++ us)) q6 = some (.lst (vs ++ us)) := upd_same
    have av6 : ∀ v ∈ vs ++ us, ∃ t, At (upd H2 q6 (.lst (vs ++ us))) v t ∧ Lf rows ns ks as kind 1 t := fun v hv2 => by
      rcases List.mem_append.mp hv2 with h | h
      · obtain ⟨t, tA, tL⟩ := av v h
        exact ⟨t, tA.mono (.same (s2.trans (Same.upd hq6))), tL⟩
      · obtain ⟨t, tA, tL⟩ := au v h
        exact ⟨t, tA.mono (.same (Same.upd hq6)), tL⟩
    have l6 : 0 < (vs ++ us).length ∧ (vs ++ us).length ≤ 1000 := by rw [List.length_append]; omega
    have n6p := (hp.same (s1.trans s2)).not hq6
    generalize vs ++ us = lv6 at s3 h6 av6 l6 ⊢
    generalize upd H2 q6 (.lst lv6) = H3 at s3 h6 av6 ⊢
    have hd3 := s3 _ _ hd
    refine ⟨_, rfl, d, od, rfl, .inl ⟨kvs, hd3, fun D3 hD3 => lc_keys (fun i H' => Same H3 H' ∧ ∃ fs : List Str, H' D3 = some (.lst (fs.map V.str)) ∧ fs.length ≤ i ∧ ∀ x ∈ fs, ∃ r ∈ rows, r.1 = x ∧ r.2.2 = kind)
      ⟨Same.upd hD3, [], upd_same, Nat.le_refl _, (fun v hv => nomatch hv)⟩ (fun i H' _ q => q.1 _ _ hd3) (fun i k v H' hkv q => ?_) (fun H4 q => ?_)⟩⟩
    · obtain ⟨s4, fs, hf, lf, af⟩ := q
      have i16 : i < kvs.length := (List.getElem?_eq_some_iff.mp hkv).1
      obtain ⟨r, hr, a, tk, e, _⟩ := fk.get hkv
      obtain ⟨rfl, rfl⟩ := Prod.mk.inj e
      have rm := List.mem_of_getElem? hr
      obtain ⟨v', hv', fv⟩ := fk.row ndr r rm
      obtain ⟨a', tk', e', ha', _⟩ := fv.mono (Mu.same (s3.trans s4))
      obtain ⟨_, rfl⟩ := Prod.mk.inj e'
      refine ⟨rfl, _, rfl, _, rfl, d, _, rfl, .inl ⟨kvs, Sum.inr r.1, .inr ⟨od, s4 _ _ hd3⟩, rfl, hv'.symm⟩, _, _, _, _, rfl, rfl, SqT.of ha'.1, atI_nat (j := 1) rfl, _, rfl, rfl, _, rfl, ite2 (fun e => ?_) (fun e => ?_)⟩
      · refine ⟨_, rfl, _, hf, ?_, fun y u hy => ?_, fs ++ [r.1], by rw [upd_same, List.map_append] <;> rfl, by rw [List.length_append]; exact Nat.succ_le_succ lf, fun y hy => ?_⟩
        · rw [List.length_map]
          exact Nat.lt_of_le_of_lt (show fs.length ≤ 1000 by omega) (by decide)
        · rw [upd_ne (ne_of_none hy hD3)]
          exact s4 _ _ hy
        · rcases List.mem_append.mp hy with h | h
          · exact af y h
          · rw [List.mem_singleton.mp h]
            have q := of_decide_eq_true e
            injection q with q
            exact ⟨r, rm, rfl, q⟩
      · exact ⟨s4, fs, hf, Nat.le_succ_of_le lf, af⟩
    obtain ⟨s4, fs, hf, lf, af⟩ := q
    have s04 := s3.trans s4
    have p4 := hp.same s04
    have lf16 : fs.length ≤ 16 := by omega
    have n3p := (hp.same s3).not hD3
    have end_ : ∀ {σ' : L2.St} {H' : Hp}, σ'[0]? = some (some (V.ref p)) → σ'[6]? = some (some (V.ref q6)) → ButS p H4 H' → StA H' p → (tOp (rIxL K) (tVar 6) (tCall spDraw [] E0 (tCons (tVar 0) (tCons (tCB (rLenK K) (tCons (tVar 6) tNil)) tNil)))) σ' H' Q := fun {σ' H'} e0 e6 b' p' => by
      refine pick_list e0 e6 p' (b' _ _ n6p (s4 _ _ h6)) n6p l6.1 l6.2 fun v H'' hv b'' p'' => ?_
      obtain ⟨t, tA, tL⟩ := av6 v hv
      have bb : ButS p H4 H'' := b'.trans b''
      exact kq v t H'' ((Same.but s04).trans bb) p'' ((tA.mono (.same s4)).mono (p4.tupS bb)) (tL.le (by omega))
    refine ⟨_, rfl, Nat.zero_le _, fun q5 hq5 => ?_⟩
    have s5 : Same H4 (upd H4 q5 (.lst [])) := Same.upd hq5
    have nil5 : upd H4 q5 (.lst []) q5 = some (.lst []) := upd_same
    have p5 := p4.same s5
    generalize upd H4 q5 (.lst []) = H5 at s5 nil5 p5 ⊢
    have hf5 := s5 _ _ hf
    have gfs : ∀ x ∈ fs, G x := fun x hx => by
      obtain ⟨r, hr, e, _⟩ := af x hx
      rw [← e]
      exact (rgk r hr).1.1
    refine ⟨_, _, .lst (SqL.of hf5) (strs_dp fs), .lst (SqL.of nil5) .nil, shaped_strs gfs, shaped_strs (ts := []) (fun _ h => nomatch h), _, rfl, ite2 (fun ef => ?_) (fun _ => end_ rfl rfl (Same.but s5) p5)⟩
    have f0 : 0 < fs.length := by
      cases fs with
      | nil => rw [show PyData.eqv (.list (List.map PyData.str [])) (.list []) = true by simp [PyData.eqv, PyData.eqvAll]] at ef; exact nomatch ef
      | cons _ _ => simp
    refine ⟨_, rfl, _, _, rfl, rfl, _, rfl, ite2 (fun ed => ?_) (fun _ => end_ rfl rfl (Same.but s5) p5)⟩
    obtain ⟨e, rfl⟩ : ∃ e, dp = e + 1 := ⟨dp - 1, by have := of_decide_eq_true ed; omega⟩
    refine ⟨_, rfl, p, 3, rfl, p5, by decide, by decide, fun r6 H6 l6' b6 p6 => ⟨_, _, rfl, rfl, _, rfl, ite2 (fun _ => ?_) (fun _ => end_ rfl rfl ((Same.but s5).trans b6) p6)⟩⟩
    have b46 : ButS p H4 H6 := (Same.but s5).trans b6
    refine pick_list rfl rfl p6 (b46 _ _ n3p hf) n3p (by rw [List.length_map]; exact f0) (by rw [List.length_map]; omega) fun v H7 hv b7 p7 => ?_
    obtain ⟨x, hx, rfl⟩ := List.mem_map.mp hv
    obtain ⟨r, rm, er, ek⟩ := af x hx
    have b47 := b46.trans b7
    have b07 : ButS p H H7 := (Same.but s04).trans b47
    have fk7 : Each (FAt [p] H7) kvs rows := fk.imp fun q r h => h.mono (.but b07 (by simp))
    obtain ⟨v1, hv1, a, tk, e', ha', htk⟩ := fk7.row ndr r rm
    obtain ⟨_, rfl⟩ := Prod.mk.inj e'
    rw [er] at hv1
    obtain ⟨_, _, _, lts, mts⟩ := rgk r rm
    have gx := gfs x hx
    have hd7 := b07 _ _ ndp hd
    refine ⟨_, rfl, _, rfl, d, _, rfl, .inl ⟨kvs, Sum.inr x, .inr ⟨od, hd7⟩, rfl, hv1.symm⟩, _, _, _, _, rfl, rfl, SqT.of ha'.1, atI_nat (j := 0) rfl, tk, rfl, ⟨_, SqL.of htk.1⟩, fun D4 hD4 => ?_⟩
    have n4p := p7.not hD4
    have m47 : ∀ {H'}, Mu [D4, p] (upd H7 D4 (.lst [])) H' → ButS p H7 H' := fun {H'} m x u nx hx => m _ _ (by simp [nx, ne_of_none hx hD4]) (by rw [upd_ne (ne_of_none hx hD4)]; exact hx)
    refine lc_list (xs := r.2.1.map V.str) (fun i H' => Mu [D4, p] (upd H7 D4 (.lst [])) H' ∧ StA H' p ∧ ∃ (vs : List V) (ps : List T), H' D4 = some (.lst vs) ∧ AtL H' vs ps ∧ ps.length = i ∧ ∀ (j : Nat) (t : T) (k : Str), ps[j]? = some t → r.2.1[j]? = some k → Lf rows ns ks as k (e + 1) t)
      ⟨.refl _, p7.upd n4p, [], [], upd_same, .nil, rfl, (fun j t k hv => nomatch hv)⟩ (fun i H' _ q => SqL.of (m47 q.1 _ _ (fun z => htk.2 (by simp [z])) htk.1)) (fun i y H8 hy q => ?_) (fun H8 q => ?_)
    · obtain ⟨m8, p8, us, ps, h8, aL, lp, pL⟩ := q
      have i3 : i < r.2.1.length := by
        have := (List.getElem?_eq_some_iff.mp hy).1
        rwa [List.length_map] at this
      obtain ⟨one, hone, rfl⟩ : ∃ one, r.2.1[i]? = some one ∧ y = V.str one := by
        rw [List.getElem?_map] at hy
        cases e : r.2.1[i]? with
        | none => rw [e] at hy; exact nomatch hy
        | some z => rw [e] at hy; exact ⟨z, rfl, (Option.some.inj hy).symm⟩
      refine ⟨rfl, ?_⟩
      unfold tYes
      simp only [if_true]
      have b78 := m47 m8
      have b08 := b07.trans b78
      refine ⟨_, rfl, _, rfl, _, rfl, _, rfl, _, rfl, _, rfl, _, _, rfl, rfl, p, d, nl, ar, od, one, e, kvs, rows, ns, ks, as, ?_, by omega, p8, b08 _ _ ndp hd, lk, (fk.imp fun q r h => h.mono (.but b08 (by simp))), ndr, rgk, hn.mono (.but b08 (by simp)), n0, n4, gn, ha.mono (.but b08 (by simp)), a4, mts one (List.mem_of_getElem? hone), gk, fun v' t H9 b9 p9 tA tL => ?_⟩
      · show [V.ref p, V.ref d, V.str one, V.ref nl, V.ref ar, V.int (((e + 1 : Nat) : Int) - 1)] = _
        rw [show ((e + 1 : Nat) : Int) - 1 = (e : Int) by omega]
      · have h9 := b9 _ _ n4p h8
        have ul := aL.length
        refine ⟨us, h9, ?_, (m8.trans (.but b9 (by simp))).trans (.upd (by simp)), p9.upd n4p, us ++ [v'], ps ++ [t], upd_same, ((aL.mono (p8.tupS b9)).snoc tA).mono (TupS.lst h9), by rw [List.length_append, lp] <;> rfl, fun j t' k' e1 e2 => ?_⟩
        · exact Nat.lt_of_le_of_lt (show us.length ≤ 1000 by omega) (by decide)
        · by_cases hj : j < ps.length
          · rw [List.getElem?_append_left hj] at e1
            exact pL j t' k' e1 e2
          · have ej : j = i := by
              have := (List.getElem?_eq_some_iff.mp e1).1
              rw [List.length_append] at this
              have : j < ps.length + 1 := this
              omega
            subst ej
            rw [List.getElem?_append_right (by omega), lp, Nat.sub_self] at e1
            rw [hone] at e2
            rw [← Option.some.inj e1, ← Option.some.inj e2]
            exact tL
    · obtain ⟨m8, p8, us, ps, h8, aL, lp, pL⟩ := q
      rw [List.length_map] at lp
      refine ⟨_, rfl, _, rfl, D4, us, rfl, .inl ⟨SqL.of h8, fun u hu => ⟨by show 3 ≤ sizeLine; decide, fun ra hra => ?_⟩⟩⟩
      have s9 : Same H8 (upd H8 u (.tup us)) := Same.upd hu
      have s10 : Same (upd H8 u (.tup us)) (upd (upd H8 u (.tup us)) ra (.tup [V.str "made", V.str x, V.ref u])) := Same.upd hra
      have hall : ∀ q ∈ ps, ∃ k, Lf rows ns ks as k (e + 1) q := fun q hq => by
        obtain ⟨j, hj, ej⟩ := List.mem_iff_getElem.mp hq
        obtain ⟨k, hk⟩ : ∃ k, r.2.1[j]? = some k := ⟨_, List.getElem?_eq_getElem (by omega)⟩
        exact ⟨k, pL j q k (by rw [List.getElem?_eq_getElem hj, ej]) hk⟩
      have er2 : ((x, r.2.1, kind) : Row) ∈ rows := by
        rw [← er, ← ek]
        exact rm
      refine kq _ (.mad x ps) _ ((b07.trans (m47 m8)).same (s9.trans s10)) (p8.same (s9.trans s10)) (.mad upd_same (s10 _ _ upd_same) (aL.mono (.same (s9.trans s10)))) ⟨⟨⟨by omega, gx⟩, fun q hq => (hall q hq).elim fun k z => z.1⟩, fun q hq => (hall q hq).elim fun k z => z.2.1, fun z => ⟨⟨by omega, gx⟩, fun q hq => (hall q hq).elim fun k w => w.2.2.1 z⟩, r.2.1, er2, lp, fun j q k e1 e2 => (pL j q k e1 e2).2.2.2⟩
end
end KD

/-! KDi: _law_saying. -/
namespace KD
open PySem PySem.Spec PyProof.Rows L2 LamX NdefX KM
/-- a saying of the works, the names and the kinds; as: the kinds around -/
def sy (rows : List Row) (ns ks : List Str) : Nat → List Str → T → Prop
  | 0, _, _ => False
  | h + 1, as, .bin _ k a => k ∈ ks ∧ sy rows ns ks h (k :: as) a
  | h + 1, as, .nod .same ps => ∃ a b k, ps = [a, b] ∧ k ∈ ks ∧ ty rows ns as h k a ∧ ty rows ns as h k b
  | _ + 1, _, .nod .no ps => ps = []
  | h + 1, as, .nod .nt ps => ∃ a, ps = [a] ∧ sy rows ns ks h as a
  | h + 1, as, .nod _ ps => ∃ a b, ps = [a, b] ∧ sy rows ns ks h as a ∧ sy rows ns ks h as b
  | _ + 1, _, _ => False
theorem sy_le {rows : List Row} {ns ks : List Str} : ∀ {h h' : Nat} {as : List Str} {t : T}, sy rows ns ks h as t → h ≤ h' → sy rows ns ks h' as t
  | 0, _, _, _, z, _ => z.elim
  | h + 1, 0, _, _, _, l => absurd l (by omega)
  | h + 1, h' + 1, as, .bin w k a, q, l => ⟨q.1, sy_le (h := h) q.2 (by omega)⟩
  | h + 1, h' + 1, as, .nod .same ps, q, l => by
    obtain ⟨a, b, k, e, hk, h1, h2⟩ := q
    exact ⟨a, b, k, e, hk, ty_le h1 (by omega), ty_le h2 (by omega)⟩
  | h + 1, h' + 1, as, .nod .no ps, q, l => q
  | h + 1, h' + 1, as, .nod .nt ps, q, l => by
    obtain ⟨a, e, h1⟩ := q
    exact ⟨a, e, sy_le h1 (by omega)⟩
  | h + 1, h' + 1, as, .nod .an ps, q, l => by
    obtain ⟨a, b, e, h1, h2⟩ := q
    exact ⟨a, b, e, sy_le h1 (by omega), sy_le h2 (by omega)⟩
  | h + 1, h' + 1, as, .nod .orr ps, q, l => by
    obtain ⟨a, b, e, h1, h2⟩ := q
    exact ⟨a, b, e, sy_le h1 (by omega), sy_le h2 (by omega)⟩
  | h + 1, h' + 1, as, .nod .sw ps, q, l => by
    obtain ⟨a, b, e, h1, h2⟩ := q
    exact ⟨a, b, e, sy_le h1 (by omega), sy_le h2 (by omega)⟩
  | h + 1, h' + 1, as, .nam _ _, q, _ => q
  | h + 1, h' + 1, as, .bnd _, q, _ => q
  | h + 1, h' + 1, as, .var _, q, _ => q
  | h + 1, h' + 1, as, .mad _ _, q, _ => q
  | h + 1, h' + 1, as, .bnn _ _ _ _, q, _ => q
/-- what a drawn saying is -/
def Sy (rows : List Row) (ns ks as : List Str) (h : Nat) (t : T) : Prop := ok ns ks h as.length t ∧ nz h t ∧ sy rows ns ks h as t
theorem Sy.le {rows : List Row} {ns ks as : List Str} {h h' : Nat} {t : T} (l : Sy rows ns ks as h t) (e : h ≤ h') : Sy rows ns ks as h' t := ⟨ok_le l.1 e (Nat.le_refl _), nz_le l.2.1 e, sy_le l.2.2 e⟩
def spSay (h : Nat) : Sp := fun vs H Q _ => ∃ (p d kl nl ar : Addr) (od : Obj) (dp mo : Nat) (kvs : List (L2.Key × V)) (rows : List Row) (ns ks kn as : List Str), vs = [.ref p, .ref d, .ref kl, .ref nl, .ref ar, .int dp, .int mo] ∧ dp < h ∧ mo ≤ 2 ∧ StA H p ∧ H d = some (.frz od (.dK kvs)) ∧ rows.length ≤ 16 ∧ Each (FAt [p] H) kvs rows ∧ (rows.map (·.1)).Nodup ∧ (∀ r ∈ rows, RowG ks r) ∧
  Sb [p] H kl (.lst (kn.map V.str)) ∧ 0 < kn.length ∧ kn.length ≤ 4 ∧ (∀ x ∈ kn, x ∈ ks) ∧ Sb [p] H nl (.lst (ns.map V.str)) ∧ 0 < ns.length ∧ ns.length ≤ 4 ∧ (∀ x ∈ ns, G x) ∧ Sb [p] H ar (.lst (as.map V.str)) ∧ as.length + dp ≤ 4 ∧ (∀ x ∈ ks, G x) ∧
  ∀ v' t H', ButS p H H' → StA H' p → At H' v' t → Sy rows ns ks as (dp + mo + 2) t → Q v' H'
abbrev sSa : Stmt := top 52
abbrev pSa : List Str := ["_law_state_here", "_law_makes_here", "_law_kinds_here", "_law_names", "_law_around", "_law_deep", "_law_most"]
abbrev nSa : List Str := ["_law_state_here", "_law_makes_here", "_law_kinds_here", "_law_names", "_law_around", "_law_deep", "_law_most", "_law_way", "_law_kind", "_law_one", "_law_other"]
theorem scSa : FnScope nSa pSa (defScope sSa) := ⟨rfl, rfl, rfl, by decide +kernel, rfl, by decide +kernel, by decide +kernel⟩
theorem way3 {w : Nat} (h1 : 4 ≤ w) (h2 : w ≤ 6) : ∃ nw : Nw, nw ≠ .no ∧ (nw = .an ∨ nw = .orr ∨ nw = .sw) ∧ atI [V.str "and", V.str "or", V.str "so"] ((w : Int) - 4) = some (V.str nw.s) := by
  rcases (show w = 4 ∨ w = 5 ∨ w = 6 by omega) with rfl | rfl | rfl
  · exact ⟨.an, by decide, by decide, rfl⟩
  · exact ⟨.orr, by decide, by decide, rfl⟩
  · exact ⟨.sw, by decide, by decide, rfl⟩
theorem sy2 {rows : List Row} {ns ks as : List Str} {h : Nat} {w : Nw} {a b : T} (e : w = .an ∨ w = .orr ∨ w = .sw) (h1 : sy rows ns ks h as a) (h2 : sy rows ns ks h as b) : sy rows ns ks (h + 1) as (.nod w [a, b]) := by
  rcases e with rfl | rfl | rfl <;> exact ⟨a, b, rfl, h1, h2⟩
theorem way2 {w : Nat} (h1 : 7 ≤ w) (h2 : w ≤ 8) : ∃ bw : Bw, atI [V.str "all", V.str "some"] ((w : Int) - 7) = some (V.str bw.s) := by
  rcases (show w = 7 ∨ w = 8 by omega) with rfl | rfl
  · exact ⟨.al, rfl⟩
  · exact ⟨.so, rfl⟩
section
variable {P : Program} {w : World} {K : PySem.W.Frag} {mg : Str → Option Value} {base : Heap} {f fr' ft : Addr} {fd fdd fdt : FuncData}
theorem ok_say (F : Fun K "_law_saying" "_law_saying" sSa f fd) (bs : Binds K fd pSa []) (ms : mg "_law_saying" = some (.ref f)) (Ft : Fun K "_law_term" "_law_term" sTe ft fdt) (bt : Binds K fdt pTe []) (mt : mg "_law_term" = some (.ref ft))
    (Fd : Fun K "_law_draw" "_law_draw" (top 45) fr' fdd) (bd : Binds K fdd ["_law_state_here", "_law_many"] []) (md : mg "_law_draw" = some (.ref fr')) (X : TxtL mg) : ∀ h, FnOk P w K mg base CX0 (5 + h) f fd pSa (spSay h)
  | 0 => by
    refine F.ok scSa (fun vs H Q E h => ?_) (fun cdv A0 outer s H vs Q E hr h => ?_)
    · obtain ⟨_, _, _, _, _, _, _, _, _, _, _, _, _, _, rfl, _⟩ := h
      rfl
    · obtain ⟨_, _, _, _, _, _, _, _, _, _, _, _, _, _, _, z, _⟩ := h
      exact absurd z (Nat.not_lt_zero _)
  | h + 1 => by
    have IH := ok_say F bs ms Ft bt mt Fd bd md X h
    have TT := ok_term (P := P) (w := w) (base := base) Ft bt mt Fd bd md X 3
    rw [show 5 + (h + 1) = (5 + h) + 1 by omega]
    refine F.ok scSa (fun vs H Q E h => ?_) (fun cdv A0 outer s H vs Q E hr hh => ?_)
    · obtain ⟨_, _, _, _, _, _, _, _, _, _, _, _, _, _, rfl, _⟩ := h
      rfl
    obtain ⟨p, d, kl, nl, ar, od, dp, mo, kvs, rows, ns, ks, kn, as, rfl, hdp, hmo, hp, hd, lk, fk, ndr, rgk, hkl, k0, k4, kks, hn, n0, n4, gn, ha, a4, gk, kq⟩ := hh
    refine ⟨_, /-T-/(pss_cons (ps_set (i := 7) scSa.nd rfl (Or.inl rfl) (pe_call (ok_draw Fd 0) (hr.mono (by omega)) rfl md Fd.kp bd .nil pass0 (pa_cons (pv 0) (pa_cons pe_int pa_nil))))
      (pss_cons (ps_if (pt_cmpR op_eq (pv 7) pe_int (nomark _)) (pss_one
        (ps_ret (pe_tup (pa_cons pe_str pa_nil)))) pss_nil)
      (pss_cons (ps_set (i := 8) scSa.nd rfl (Or.inl rfl) (pe_ix ix_list (pv 2) (pe_call (ok_draw Fd 0) (hr.mono (by omega)) rfl md Fd.kp bd .nil pass0 (pa_cons (pv 0) (pa_cons (pe_callB call_len_seq (by rfl) X.len PySem.boot_len (pa_cons (pv 2) pa_nil)) pa_nil))) (fun _ _ => rfl)))
      (pss_cons (ps_if (PW.pt (pw_or (pt_cmpR op_lt (pv 7) pe_int (nomark _)) (pw_or1 (pt_cmpR op_eq (pv 5) pe_int (nomark _))))) (pss_cons (ps_set (i := 9) scSa.nd rfl (Or.inl rfl) (pe_call (TT) (hr.mono (by omega)) rfl mt Ft.kp bt .nil pass0 (pa_cons (pv 0) (pa_cons (pv 1) (pa_cons (pv 8) (pa_cons (pv 3) (pa_cons (pv 4) (pa_cons (pv 6) pa_nil))))))))
      (pss_one
        (ps_ret (pe_tup (pa_cons pe_str (pa_cons (pv 9) (pa_cons (pe_call (TT) (hr.mono (by omega)) rfl mt Ft.kp bt .nil pass0 (pa_cons (pv 0) (pa_cons (pv 1) (pa_cons (pv 8) (pa_cons (pv 3) (pa_cons (pv 4) (pa_cons (pv 6) pa_nil))))))) pa_nil))))))) pss_nil)
      (pss_cons (ps_if (pt_cmpR op_eq (pv 7) pe_int (nomark _)) (pss_one
        (ps_ret (pe_tup (pa_cons pe_str (pa_cons (pe_call (IH) hr rfl ms F.kp bs .nil pass0 (pa_cons (pv 0) (pa_cons (pv 1) (pa_cons (pv 2) (pa_cons (pv 3) (pa_cons (pv 4) (pa_cons (pe_op op_sub (pv 5) pe_int) (pa_cons (pv 6) pa_nil)))))))) pa_nil))))) pss_nil)
      (pss_cons (ps_if (pt_cmpR op_lt (pv 7) pe_int (nomark _)) (pss_cons (ps_set (i := 9) scSa.nd rfl (Or.inl rfl) (pe_call (IH) hr rfl ms F.kp bs .nil pass0 (pa_cons (pv 0) (pa_cons (pv 1) (pa_cons (pv 2) (pa_cons (pv 3) (pa_cons (pv 4) (pa_cons (pe_op op_sub (pv 5) pe_int) (pa_cons (pv 6) pa_nil)))))))))
      (pss_cons (ps_set (i := 10) scSa.nd rfl (Or.inl rfl) (pe_call (IH) hr rfl ms F.kp bs .nil pass0 (pa_cons (pv 0) (pa_cons (pv 1) (pa_cons (pv 2) (pa_cons (pv 3) (pa_cons (pv 4) (pa_cons (pe_op op_sub (pv 5) pe_int) (pa_cons (pv 6) pa_nil)))))))))
      (pss_one
        (ps_ret (pe_tup (pa_cons (pe_ix ix_list (pe_lst (pa_cons pe_str (pa_cons pe_str (pa_cons pe_str pa_nil)))) (pe_op op_sub (pv 7) pe_int) (fun _ _ => rfl)) (pa_cons (pv 9) (pa_cons (pv 10) pa_nil)))))))) pss_nil)
      (pss_one
        (ps_ret (pe_tup (pa_cons (pe_ix ix_list (pe_lst (pa_cons pe_str (pa_cons pe_str pa_nil))) (pe_op op_sub (pv 7) pe_int) (fun _ _ => rfl)) (pa_cons (pv 8) (pa_cons (pe_call (IH) hr rfl ms F.kp bs .nil pass0 (pa_cons (pv 0) (pa_cons (pv 1) (pa_cons (pv 2) (pa_cons (pv 3) (pa_cons (pe_op op_cat (pe_lst (pa_cons (pv 8) pa_nil)) (pv 4)) (pa_cons (pe_op op_sub (pv 5) pe_int) (pa_cons (pv 6) pa_nil)))))))) pa_nil))))))))))))/-E-/, ?_⟩
/-B-/
    have nkp : kl ≠ p := fun z => hkl.2 (by simp [z])
    have ndp : d ≠ p := by
      intro e
      obtain ⟨_, _, z, _⟩ := hp
      rw [e, z] at hd
      cases hd
    have term_ : ∀ {H' : Hp} {kind : Str} {Qe : VK}, kind ∈ ks → ButS p H H' → StA H' p → (∀ v' t H'', ButS p H' H'' → StA H'' p → At H'' v' t → Lf rows ns ks as kind (mo + 1) t → Qe v' H'') → spTerm 3 [.ref p, .ref d, .str kind, .ref nl, .ref ar, .int mo] H' Qe E0 := fun {H' kind Qe} hk b' p' c =>
      ⟨p, d, nl, ar, od, kind, mo, kvs, rows, ns, ks, as, rfl, by omega, p', b' _ _ ndp hd, lk, (fk.imp fun q r h => h.mono (.but b' (by simp))), ndr, rgk, hn.mono (.but b' (by simp)), n0, n4, gn, ha.mono (.but b' (by simp)), by omega, hk, gk, c⟩
    have say_ : ∀ {H' : Hp} {e : Nat} {ar' : Addr} {as' : List Str} {Qe : VK}, dp = e + 1 → ButS p H H' → StA H' p → Sb [p] H' ar' (.lst (as'.map V.str)) → as'.length + e ≤ 4 → (∀ v' t H'', ButS p H' H'' → StA H'' p → At H'' v' t → Sy rows ns ks as' (e + mo + 2) t → Qe v' H'') →
        spSay h [.ref p, .ref d, .ref kl, .ref nl, .ref ar', .int ((dp : Int) - 1), .int mo] H' Qe E0 := fun {H' e ar' as' Qe} ed b' p' ha' la c =>
      ⟨p, d, kl, nl, ar', od, e, mo, kvs, rows, ns, ks, kn, as', by rw [show (dp : Int) - 1 = (e : Int) by omega], by omega, hmo, p', b' _ _ ndp hd, lk, (fk.imp fun q r h => h.mono (.but b' (by simp))), ndr, rgk, hkl.mono (.but b' (by simp)), k0, k4, kks, hn.mono (.but b' (by simp)), n0, n4, gn, ha', la, gk, c⟩
    refine ⟨_, rfl, p, 9, rfl, hp, by decide, by decide, fun w H1 l1 b1 p1 => ?_⟩
    refine ⟨_, rfl, rfl, _, rfl, ite2 (fun _ => ?_) (fun _ => ?_)⟩
    · refine ⟨by show 1 ≤ sizeLine; decide, fun r hr => kq _ (.nod .no []) _ (b1.same (Same.upd hr)) (p1.same (Same.upd hr)) (.nod (vs := []) upd_same .nil) ⟨⟨by decide, fun q hq => nomatch hq⟩, ⟨fun _ => rfl, fun q hq => nomatch hq⟩, rfl⟩⟩
    refine pick_list rfl rfl p1 (b1 _ _ nkp hkl.1) nkp (by rw [List.length_map]; exact k0) (by rw [List.length_map]; omega) fun kv H2 hv b2 p2 => ?_
    obtain ⟨kind, hkn, rfl⟩ := List.mem_map.mp hv
    have hkind := kks kind hkn
    have b02 := b1.trans b2
    have same_ : ∀ {σ' : L2.St} {Dn : Ends}, Dn.rt = Q → σ'[0]? = some (some (V.ref p)) → σ'[1]? = some (some (V.ref d)) → σ'[8]? = some (some (V.str kind)) → σ'[3]? = some (some (V.ref nl)) → σ'[4]? = some (some (V.ref ar)) → σ'[6]? = some (some (V.int mo)) → σ'.length = 11 →
        (tSeq (tAsg (tCall (spTerm 3) [] E0 (tCons (tVar 0) (tCons (tVar 1) (tCons (tVar 8) (tCons (tVar 3) (tCons (tVar 4) (tCons (tVar 6) tNil))))))) (gName 9)) (tRet (tTup (tCons (tC (V.str "same")) (tCons (tVar 9) (tCons (tCall (spTerm 3) [] E0 (tCons (tVar 0) (tCons (tVar 1) (tCons (tVar 8) (tCons (tVar 3) (tCons (tVar 4) (tCons (tVar 6) tNil))))))) tNil)))))) Dn σ' H2 := by
      intro σ' Dn eD e0 e1 e8 e3 e4 e6 eL
      refine ⟨_, e0, _, e1, _, e8, _, e3, _, e4, _, e6, term_ hkind b02 p2 fun v1 t1 H3 b3 p3 tA1 tL1 => ?_⟩
      have st : ∀ i, i ≠ 9 → (σ'.set 9 (some v1))[i]? = σ'[i]? := fun i ne => List.getElem?_set_ne (Ne.symm ne)
      refine ⟨_, List.getElem?_set_self (by omega), _, (st 0 (by decide)).trans e0, _, (st 1 (by decide)).trans e1, _, (st 8 (by decide)).trans e8, _, (st 3 (by decide)).trans e3, _, (st 4 (by decide)).trans e4, _, (st 6 (by decide)).trans e6, term_ hkind (b02.trans b3) p3 fun v2 t2 H4 b4 p4 tA2 tL2 => ⟨by show 3 ≤ sizeLine; decide, fun r hr => ?_⟩⟩
      have s5 : Same H4 (upd H4 r (.tup [V.str "same", v1, v2])) := Same.upd hr
      rw [eD]
      refine kq _ (.nod .same [t1, t2]) _ (((b02.trans b3).trans b4).same s5) (p4.same s5) (.nod upd_same (.cons ((tA1.mono (p3.tupS b4)).mono (.same s5)) (.cons (tA2.mono (.same s5)) .nil))) (Sy.le (h := mo + 2) ⟨⟨Nat.le_refl 2, fun q hq => ?_⟩, ⟨(fun z => nomatch z), fun q hq => ?_⟩, t1, t2, kind, rfl, hkind, tL1.2.2.2, tL2.2.2.2⟩ (by omega))
      · rcases List.mem_cons.mp hq with rfl | hq
        · exact tL1.1
        · rw [List.mem_singleton.mp hq]; exact tL2.1
      · rcases List.mem_cons.mp hq with rfl | hq
        · exact tL1.2.1
        · rw [List.mem_singleton.mp hq]; exact tL2.2.1
    refine ⟨_, rfl, _, _, rfl, rfl, _, rfl, ite2 (fun _ => iteT (same_ rfl rfl rfl rfl rfl rfl rfl rfl)) (fun e3 => ⟨_, rfl, rfl, _, rfl, ite2 (fun _ => same_ rfl rfl rfl rfl rfl rfl rfl rfl) (fun e0 => ?_)⟩)⟩
    have w3 : 3 ≤ w := by
      have : ¬ ((w : Int) < 3) := fun z => e3 (decide_eq_true z)
      omega
    obtain ⟨e, ed⟩ : ∃ e, dp = e + 1 := ⟨dp - 1, by
      have : dp ≠ 0 := fun z => e0 (by rw [z]; exact decide_eq_true rfl)
      omega⟩
    have fin : ∀ {m' : List Str} {t : T}, Sy rows ns ks m' (e + mo + 2 + 1) t → Sy rows ns ks m' (dp + mo + 2) t := fun {m' t} z => z.le (by omega)
    have ha2 := ha.mono (.but b02 (by simp))
    refine ⟨_, rfl, rfl, _, rfl, ite2 (fun _ => ?_) (fun e4 => ?_)⟩
    · refine ⟨_, rfl, _, rfl, _, rfl, _, rfl, _, rfl, _, rfl, _, _, rfl, rfl, _, rfl, say_ ed b02 p2 ha2 (by omega) fun v1 t1 H3 b3 p3 tA tL => ⟨by show 2 ≤ sizeLine; decide, fun r hr => ?_⟩⟩
      have s4 : Same H3 (upd H3 r (.tup [V.str "not", v1])) := Same.upd hr
      exact kq _ (.nod .nt [t1]) _ ((b02.trans b3).same s4) (p3.same s4) (.nod upd_same (.cons (tA.mono (.same s4)) .nil)) (fin ⟨⟨by show 1 ≤ 2; decide, fun q hq => by rw [List.mem_singleton.mp hq]; exact tL.1⟩, ⟨(fun z => nomatch z), fun q hq => by rw [List.mem_singleton.mp hq]; exact tL.2.1⟩, t1, rfl, tL.2.2⟩)
    have w4 : 4 ≤ w := by
      have : w ≠ 3 := fun z => e4 (by rw [z]; exact decide_eq_true rfl)
      omega
    refine ⟨_, rfl, _, _, rfl, rfl, _, rfl, ite2 (fun e7 => ?_) (fun e7 => ?_)⟩
    · have w6 : w ≤ 6 := by
        have := of_decide_eq_true e7
        omega
      obtain ⟨nw, nwn, nwx, hnw⟩ := way3 w4 w6
      refine ⟨_, rfl, _, rfl, _, rfl, _, rfl, _, rfl, _, rfl, _, _, rfl, rfl, _, rfl, say_ ed b02 p2 ha2 (by omega) fun v1 t1 H3 b3 p3 tA1 tL1 => ?_⟩
      refine ⟨_, rfl, _, rfl, _, rfl, _, rfl, _, rfl, _, rfl, _, _, rfl, rfl, _, rfl, say_ ed (b02.trans b3) p3 (ha2.mono (.but b3 (by simp))) (by omega) fun v2 t2 H4 b4 p4 tA2 tL2 => ?_⟩
      refine ⟨by show 3 ≤ sizeLine; decide, fun q5 hq5 => ?_⟩
      have s5 : Same H4 (upd H4 q5 (.lst [V.str "and", V.str "or", V.str "so"])) := Same.upd hq5
      refine ⟨_, rfl, _, _, rfl, rfl, _, _, _, _, rfl, rfl, SqL.of upd_same, hnw, _, rfl, _, rfl, by show 3 ≤ sizeLine; decide, fun r hr => ?_⟩
      have s6 := s5.trans (Same.upd (o := .tup [V.str nw.s, v1, v2]) hr)
      refine kq _ (.nod nw [t1, t2]) _ (((b02.trans b3).trans b4).same s6) (p4.same s6) (.nod upd_same (.cons ((tA1.mono (p3.tupS b4)).mono (.same s6)) (.cons (tA2.mono (.same s6)) .nil))) (fin ⟨⟨Nat.le_refl 2, fun q hq => ?_⟩, ⟨(fun z => absurd z nwn), fun q hq => ?_⟩, sy2 nwx tL1.2.2 tL2.2.2⟩)
      · rcases List.mem_cons.mp hq with rfl | hq
        · exact tL1.1
        · rw [List.mem_singleton.mp hq]; exact tL2.1
      · rcases List.mem_cons.mp hq with rfl | hq
        · exact tL1.2.1
        · rw [List.mem_singleton.mp hq]; exact tL2.2.1
    · have w7 : 7 ≤ w := by
        have : ¬ ((w : Int) < 7) := fun z => e7 (decide_eq_true z)
        omega
      obtain ⟨bw, hbw⟩ := way2 w7 (by omega)
      refine ⟨by show 2 ≤ sizeLine; decide, fun q5 hq5 => ?_⟩
      have s5 : Same H2 (upd H2 q5 (.lst [V.str "all", V.str "some"])) := Same.upd hq5
      refine ⟨_, rfl, _, _, rfl, rfl, _, _, _, _, rfl, rfl, SqL.of upd_same, hbw, _, rfl, ?_⟩
      refine ⟨_, rfl, _, rfl, _, rfl, _, rfl, _, rfl, by show 1 ≤ sizeLine; decide, fun q6 hq6 => ?_⟩
      have s6 := s5.trans (Same.upd (o := .lst [V.str kind]) hq6)
      have ha6 := ha2.mono (.same s6)
      have k6 : upd (upd H2 q5 (.lst [V.str "all", V.str "some"])) q6 (.lst [V.str kind]) q6 = some (.lst [V.str kind]) := upd_same
      generalize upd (upd H2 q5 (.lst [V.str "all", V.str "some"])) q6 (.lst [V.str kind]) = H6 at s6 ha6 k6 ⊢
      refine ⟨_, rfl, _, _, _, _, rfl, rfl, k6, ha6.1, ?_, fun q7 hq7 => ?_⟩
      · rw [List.length_map]
        exact Nat.le_trans (show 1 + as.length ≤ 1000 by omega) (by decide)
      have s7 : Same H6 (upd H6 q7 (.lst ([V.str kind] ++ as.map V.str))) := Same.upd hq7
      have p7 := p2.same (s6.trans s7)
      have n7p := (p2.same s6).not hq7
      have ha7 : Sb [p] (upd H6 q7 (.lst ([V.str kind] ++ as.map V.str))) q7 (.lst ((kind :: as).map V.str)) := ⟨by rw [upd_same] <;> rfl, by simp [n7p]⟩
      have b27 := b02.same (s6.trans s7)
      refine ⟨_, rfl, _, _, rfl, rfl, _, rfl, say_ ed b27 p7 ha7 (by rw [List.length_cons]; omega) fun v1 t1 H8 b8 p8 tA tL => ⟨by show 3 ≤ sizeLine; decide, fun r hr => ?_⟩⟩
      have s9 : Same H8 (upd H8 r (.tup [V.str bw.s, V.str kind, v1])) := Same.upd hr
      exact kq _ (.bin bw kind t1) _ ((b27.trans b8).same s9) (p8.same s9) (.bin upd_same (tA.mono (.same s9))) (fin ⟨⟨⟨hkind, gk kind hkind⟩, tL.1⟩, tL.2.1, hkind, tL.2.2⟩)
end
end KD

/-! DRj: _law_kinds, with all of its rows told. -/
namespace KD
open PySem PySem.Spec PyProof.Rows L2 LamX NdefX KM
/-- all names, in order -/
def osOf (l : List KRow) : List Str := l.flatMap fun x => x.1 :: x.2.map (·.1)
theorem osOf_snoc (l : List KRow) (x : KRow) : osOf (l ++ [x]) = osOf l ++ x.1 :: x.2.map (·.1) := by
  unfold osOf
  rw [List.flatMap_append, List.flatMap_cons, List.flatMap_nil, List.append_nil]
theorem osOf_mem {l : List KRow} {x : KRow} (h : x ∈ l) : x.1 ∈ osOf l := List.mem_flatMap.mpr ⟨x, h, List.mem_cons_self⟩
def Nm (y : Str) : Prop := G y ∧ 1 ≤ y.length ∧ y ∉ seven
/-- told ahead -/
def Told (l : List KRow) (y : Str) : Prop := ∃ k ∈ l, k.1 = y ∧ k.2 ≠ []
def GdK (l : List KRow) (x : KRow) : Prop := x.2.length ≤ 3 ∧ (∀ m ∈ x.2, m.2.length ≤ 2 ∧ ∀ y ∈ m.2, y = x.1 ∨ Told l y) ∧ ∀ m, x.2[0]? = some m → x.1 ∉ m.2
def mkD (m : Str × List Str) : PyData := .tuple [.str m.1, .list (m.2.map PyData.str)]
theorem mkR_dp {K : PySem.W.Frag} {M : List Addr} {H : Hp} : ∀ {ms : List V} {mks : List (Str × List Str)}, Each (MkR M H) ms mks → DpAll K H ms (mks.map mkD)
  | _, _, .nil => .nil
  | _, _, .cons a b => by
    obtain ⟨c, tk, rfl, h1, h2⟩ := a
    exact .cons (.tup (SqT.of h1.1) (.cons (.str _) (.cons (.lst (SqL.of h2.1) (strs_dp _)) .nil))) (mkR_dp b)
theorem can_mks : ∀ {mks : List (Str × List Str)}, (∀ m ∈ mks, G m.1 ∧ ∀ y ∈ m.2, G y) → PyData.canLayAll0 (mks.map mkD) = true
  | [], _ => rfl
  | m :: mks, h => by
    have hm := h m List.mem_cons_self
    simp only [List.map_cons, PyData.canLayAll0, Bool.and_eq_true]
    refine ⟨?_, can_mks fun x hx => h x (List.mem_cons_of_mem _ hx)⟩
    unfold mkD
    simp only [PyData.canLay0, PyData.canLayAll0, Bool.and_eq_true]
    exact ⟨G.strOk hm.1, can_strs hm.2, trivial⟩
theorem dep_mks : ∀ (mks : List (Str × List Str)), PyData.depthAll (mks.map mkD) ≤ 2
  | [] => by simp [PyData.depthAll]
  | m :: mks => by
    have ih := dep_mks mks
    have e : PyData.depth (mkD m) ≤ 2 := by
      unfold mkD
      simp only [PyData.depth, PyData.depthAll, dep_strs]
      decide
    simp only [List.map_cons, PyData.depthAll]
    exact Nat.max_le.mpr ⟨e, ih⟩
theorem shaped_mks {mks : List (Str × List Str)} (h : ∀ m ∈ mks, G m.1 ∧ ∀ y ∈ m.2, G y) : SeqAt.shaped (.list (mks.map mkD)) = true := by
  unfold SeqAt.shaped
  have c : (PyData.list (mks.map mkD)).canLay0 = true := by
    simp only [PyData.canLay0]
    exact can_mks h
  rw [c, Bool.true_and]
  refine decide_eq_true ?_
  have := dep_mks mks
  simp only [PyData.depth]
  omega
def spKinds : Sp := fun vs H Q _ => ∃ (p t : Addr), vs = [.ref p, .ref t] ∧ StA H p ∧ H t = some (.lst []) ∧ t ≠ p ∧
  ∀ (kk : Addr) (H' : Hp) (kds : List KRow) (us : List V), Mu [p, t] H H' → StA H' p → H' t = some (.lst ((osOf kds).map V.str)) → (osOf kds).Nodup → (∀ y ∈ osOf kds, Nm y) → (osOf kds).length ≤ 16 → H kk = none → Sb [p, t] H' kk (.lst us) → 1 ≤ kds.length → kds.length ≤ 4 → (∀ i x, kds[i]? = some x → GdK (kds.take i) x) → Each (KdR [p, t] H') us kds → Q (.ref kk) H'
abbrev nKi : List Str := ["_law_state_here", "_law_taken", "_law_kinds_here", "_law_k", "_law_name", "_law_told", "_law_makers", "_law_j", "_law_maker", "_law_takes", "_law_i", "_law_some", "_law_kind"]
theorem scKi : FnScope nKi ["_law_state_here", "_law_taken"] (defScope (top 47)) := ⟨rfl, rfl, rfl, by decide +kernel, rfl, by decide +kernel, by decide +kernel⟩
section
variable {P : Program} {w : World} {K : PySem.W.Frag} {mg : Str → Option Value} {base : Heap} {f fr' fw : Addr} {fd fdd fdw : FuncData}
theorem ok_kinds (F : Fun K "_law_kinds" "_law_kinds" (top 47) f fd) (Fd : Fun K "_law_draw" "_law_draw" (top 45) fr' fdd) (bd : Binds K fdd ["_law_state_here", "_law_many"] []) (md : mg "_law_draw" = some (.ref fr'))
    (Fw : Fun K "_law_word" "_law_word" (top 46) fw fdw) (bw : Binds K fdw ["_law_state_here", "_law_others"] []) (mw : mg "_law_word" = some (.ref fw)) (X : TxtL mg) (k : Nat) : FnOk P w K mg base CX0 (3 + k) f fd ["_law_state_here", "_law_taken"] spKinds := by
  rw [show 3 + k = (2 + k) + 1 by omega]
  refine F.ok scKi (fun vs H Q E h => ?_) (fun cdv A0 outer s H vs Q E hr hq => ?_)
  · obtain ⟨p, t, rfl, _⟩ := h
    rfl
  obtain ⟨p, t, rfl, hp, ht, ne, kq⟩ := hq
  refine ⟨_, /-T-/(pss_cons (ps_set (i := 2) scKi.nd rfl (Or.inl rfl) (pe_lst pa_nil))
      (pss_cons (ps_for PassesOwn.never rfl (pi_range1 rfl X.rng (pa_cons (pe_op op_add pe_int (pe_call (ok_draw Fd k) (hr.mono (by omega)) rfl md Fd.kp bd .nil pass0 (pa_cons (pv 0) (pa_cons pe_int pa_nil)))) pa_nil)) (pg_name (i := 3) scKi.nd rfl (Or.inl rfl)) (pss_cons (ps_set (i := 4) scKi.nd rfl (Or.inl rfl) (pe_call (ok_word Fw Fd bd md X _) hr rfl mw Fw.kp bw .nil pass0 (pa_cons (pv 0) (pa_cons (pv 1) pa_nil))))
      (pss_cons (ps_expr (pe_bm PySem.F.plainAttrs_list PySem.F.slot_list_append PySem.F.type_list_append mt_append (pv 1) (pa_cons (pv 4) pa_nil)))
      (pss_cons (ps_setLc (i := 5) (own := [("_law_kind", 12)]) (g := gName 12) (tt := tTest (tOp (rNeD K) (tOp (rIxT K) (tVar 12) (tC (V.int 1))) (tLst tNil))) (te := tOp (rIxT K) (tVar 12) (tC (V.int 0))) rfl scKi.nd rfl rfl rfl (pi_list (pv 2)) (blkOk_by (N := nKi) (sc := defScope (top 47)) (by decide +kernel)) (fun _ _ _ _ _ => pg_name (i := 12) scKi.nd rfl (Or.inl rfl)) (fun _ _ _ _ _ => pts_one (pt_cmpR (op_neD (u64 hr)) (pe_ix ix_tup (pv 12) pe_int (fun _ _ => rfl)) (pe_lst pa_nil) (nomark _))) (fun _ _ _ _ _ => (pe_ix ix_tup (pv 12) pe_int (fun _ _ => rfl))))
      (pss_cons (ps_set (i := 6) scKi.nd rfl (Or.inl rfl) (pe_lst pa_nil))
      (pss_cons (ps_for PassesOwn.never rfl (pi_range1 rfl X.rng (pa_cons (pe_call (ok_draw Fd k) (hr.mono (by omega)) rfl md Fd.kp bd .nil pass0 (pa_cons (pv 0) (pa_cons pe_int pa_nil))) pa_nil)) (pg_name (i := 7) scKi.nd rfl (Or.inl rfl)) (pss_cons (ps_set (i := 8) scKi.nd rfl (Or.inl rfl) (pe_call (ok_word Fw Fd bd md X _) hr rfl mw Fw.kp bw .nil pass0 (pa_cons (pv 0) (pa_cons (pv 1) pa_nil))))
      (pss_cons (ps_expr (pe_bm PySem.F.plainAttrs_list PySem.F.slot_list_append PySem.F.type_list_append mt_append (pv 1) (pa_cons (pv 8) pa_nil)))
      (pss_cons (ps_set (i := 9) scKi.nd rfl (Or.inl rfl) (pe_lst pa_nil))
      (pss_cons (ps_for PassesOwn.never rfl (pi_range1 rfl X.rng (pa_cons (pe_call (ok_draw Fd k) (hr.mono (by omega)) rfl md Fd.kp bd .nil pass0 (pa_cons (pv 0) (pa_cons pe_int pa_nil))) pa_nil)) (pg_name (i := 10) scKi.nd rfl (Or.inl rfl)) (pss_cons (ps_set (i := 11) scKi.nd rfl (Or.inl rfl) (pe_op op_cat (pv 5) (pe_op op_rep (pe_lst (pa_cons (pv 4) pa_nil)) (pe_callB (call_min2 rfl) (by rfl) X.min boot_min (pa_cons (pv 7) (pa_cons pe_int pa_nil))))))
      (pss_one
        (ps_if (pt_cmpR (op_neD (u64 hr)) (pv 11) (pe_lst pa_nil) (nomark _)) (pss_one
        (ps_expr (pe_bm PySem.F.plainAttrs_list PySem.F.slot_list_append PySem.F.type_list_append mt_append (pv 9) (pa_cons (pe_ix ix_list (pv 11) (pe_call (ok_draw Fd k) (hr.mono (by omega)) rfl md Fd.kp bd .nil pass0 (pa_cons (pv 0) (pa_cons (pe_callB call_len_seq (by rfl) X.len PySem.boot_len (pa_cons (pv 11) pa_nil)) pa_nil))) (fun _ _ => rfl)) pa_nil)))) pss_nil))))
      (pss_one
        (ps_expr (pe_bm PySem.F.plainAttrs_list PySem.F.slot_list_append PySem.F.type_list_append mt_append (pv 6) (pa_cons (pe_tup (pa_cons (pv 8) (pa_cons (pv 9) pa_nil))) pa_nil)))))))))
      (pss_one
        (ps_expr (pe_bm PySem.F.plainAttrs_list PySem.F.slot_list_append PySem.F.type_list_append mt_append (pv 2) (pa_cons (pe_tup (pa_cons (pv 4) (pa_cons (pv 6) pa_nil))) pa_nil))))))))))
      (pss_one
        (ps_ret (pv 2)))))/-E-/, ?_⟩
  refine ⟨Nat.zero_le _, fun kk hkk => ?_⟩
  have sK : Same H (upd H kk (.lst [])) := Same.upd hkk
  have pK := hp.same sK
  have tK := sK _ _ ht
  have kK : upd H kk (.lst []) kk = some (.lst []) := upd_same
  generalize upd H kk (.lst []) = HK at sK pK tK kK ⊢
  refine ⟨_, rfl, p, 4, rfl, pK, by decide, by decide, fun r1 H1 l1 b1 p1 => ?_⟩
  have nek : kk ≠ p := by
    intro e
    obtain ⟨_, _, z, _⟩ := hp
    rw [e, z] at hkk
    cases hkk
  have nekt : kk ≠ t := by
    intro e
    rw [e, ht] at hkk
    cases hkk
  have t1 := b1 _ _ ne tK
  have k1 := b1 _ _ nek kK
  refine ⟨_, _, rfl, rfl, _, rfl, by show -(2 ^ 62) ≤ (1 : Int) + (r1 : Int); omega, by show (1 : Int) + (r1 : Int) < 2 ^ 62; omega, ?_⟩
  have nn : ((1 : Int) + (r1 : Int)).toNat = r1 + 1 := by omega
  refine for_range (fun i σ' H' => ∃ (kds : List KRow) (us : List V) (o3 o4 o5 o6 o7 o8 o9 o10 o11 : Option V), σ' = [some (V.ref p), some (V.ref t), some (V.ref kk), o3, o4, o5, o6, o7, o8, o9, o10, o11, none] ∧ Mu [kk, p, t] H1 H' ∧ StA H' p ∧ H' t = some (.lst ((osOf kds).map V.str)) ∧ (osOf kds).length ≤ 4 * i ∧
      H' kk = some (.lst us) ∧ kds.length = i ∧ (osOf kds).Nodup ∧ (∀ y ∈ osOf kds, Nm y) ∧ (∀ i x, kds[i]? = some x → GdK (kds.take i) x) ∧ Each (KdR [kk, p, t] H') us kds)
    ⟨[], [], none, none, none, none, none, none, none, none, none, rfl, .refl H1, p1, t1, Nat.le_refl _, k1, rfl, List.nodup_nil, (fun x hx => nomatch hx), (fun i x hx => nomatch hx), .nil⟩ (fun i σ' H2 hi q => ?_) (fun σ' H2 q => ?_)
  · obtain ⟨kds, us, o3, o4, o5, o6, o7, o8, o9, o10, o11, rfl, m2, p2, t2, lo, k2, lk, ndo, gno, gdk, uk⟩ := q
    have lu := uk.length
    have gkn : ∀ k ∈ kds, G k.1 := fun k hk => (gno _ (osOf_mem hk)).1
    have gmk : ∀ k ∈ kds, ∀ m ∈ k.2, G m.1 ∧ ∀ y ∈ m.2, G y := fun k hk m hm => by
      obtain ⟨j, hj, ej⟩ := List.getElem_of_mem hk
      have g2 := gdk j k (by rw [List.getElem?_eq_getElem hj, ej])
      refine ⟨(gno _ (List.mem_flatMap.mpr ⟨k, hk, List.mem_cons_of_mem _ (List.mem_map.mpr ⟨m, hm, rfl⟩)⟩)).1, fun y hy => ?_⟩
      rcases (g2.2.1 m hm).2 y hy with rfl | ⟨k', hk', rfl, _⟩
      · exact gkn k hk
      · exact gkn k' (List.mem_of_mem_take hk')
    generalize eos : osOf kds = os at t2 lo ndo gno
    have i4 : i < 4 := by
      have hi : i < ((1 : Int) + (r1 : Int)).toNat := hi
      omega
    refine ⟨_, rfl, _, rfl, p, t, os, rfl, p2, t2, ne, by omega, fun x H3 gx nxo nx7 nx1 b3 p3 => ?_⟩
    have t3 := b3 _ _ ne t2
    have k3 := b3 _ _ nek k2
    refine ⟨_, rfl, .inl ⟨rfl, _, SqL.of t3⟩, _, rfl, _, _, _, rfl, rfl, t3, ?_, ?_⟩
    · rw [List.length_map]
      exact Nat.lt_of_le_of_lt (show os.length ≤ 1000 by omega) (by decide)
    have mu4 : Mu [p, t] H2 (upd H3 t (.lst (os.map V.str ++ [V.str x]))) := (Mu.but b3 (by simp)).trans (Mu.upd (by simp))
    have nkt : kk ∉ [p, t] := by simp [nek, nekt]
    have p4 : StA (upd H3 t (.lst (os.map V.str ++ [V.str x]))) p := by
      obtain ⟨a, b, z, r⟩ := p3
      exact ⟨a, b, by rw [upd_ne (Ne.symm ne)]; exact z, r⟩
    have t4 : upd H3 t (.lst (os.map V.str ++ [V.str x])) t = some (.lst ((os ++ [x]).map V.str)) := by rw [upd_same, List.map_append] <;> rfl
    have k4 := mu4 _ _ nkt k2
    have uk4 : Each (KdR [kk, p, t] (upd H3 t (.lst (os.map V.str ++ [V.str x])))) us kds := uk.imp fun v r h => h.mono (mu4.sub (by simp))
    generalize upd H3 t (.lst (os.map V.str ++ [V.str x])) = H4 at mu4 p4 t4 k4 uk4 ⊢
    refine ⟨_, rfl, kk, rfl, ⟨_, SqL.of k4⟩, fun D hD => lc_list (xs := us) (fun i H5 => Same H4 H5 ∧ ∃ tl : List Str, H5 D = some (.lst (tl.map V.str)) ∧ tl.length ≤ i ∧ ∀ y ∈ tl, Told kds y)
      ⟨Same.upd hD, [], upd_same, Nat.le_refl _, (fun y hy => nomatch hy)⟩ (fun i H5 _ q => SqL.of (q.1 _ _ k4)) (fun j v H5 hv q => ?_) (fun H5 q => ?_)⟩
    · obtain ⟨s5, tl, d5, ltl, mtl⟩ := q
      obtain ⟨kx, hkx, kR⟩ := uk4.get hv
      have hkm := List.mem_of_getElem? hkx
      obtain ⟨a, mk, ms, rfl, h1, h2, hm⟩ := kR.mono (.same s5)
      have jl : j < us.length := (List.getElem?_eq_some_iff.mp hv).1
      refine ⟨rfl, _, rfl, _, _, _, _, rfl, rfl, SqT.of h1.1, rfl, Nat.zero_le _, fun z hz => ?_⟩
      have s6 : Same H5 (upd H5 z (.lst [])) := Same.upd hz
      have e1 := mkR_dp (K := K) (hm.imp fun v r h => h.mono (.same s6))
      have e2 := shaped_mks (gmk kx hkm)
      refine ⟨_, _, .lst (SqL.of (s6 _ _ h2.1)) e1, .lst (SqL.of upd_same) .nil, e2, shaped_strs (ts := []) (fun _ h => nomatch h), _, rfl, ite2 (fun e => ?_) (fun e => ?_)⟩
      · refine ⟨_, rfl, _, _, _, _, rfl, rfl, SqT.of (s6 _ _ h1.1), rfl, _, s6 _ _ d5, ?_, fun y u hy => ?_, tl ++ [kx.1], by rw [upd_same, List.map_append] <;> rfl, by rw [List.length_append]; exact Nat.succ_le_succ ltl, fun y hy => ?_⟩
        · rw [List.length_map]
          exact Nat.lt_of_le_of_lt (show tl.length ≤ 1000 by omega) (by decide)
        · rw [upd_ne (ne_of_none hy hD)]
          exact s6 _ _ (s5 _ _ hy)
        · rcases List.mem_append.mp hy with h | h
          · exact mtl y h
          · rw [List.mem_singleton.mp h]
            refine ⟨kx, hkm, rfl, fun z => ?_⟩
            rw [z, show PyData.eqv (.list (List.map mkD [])) (.list []) = true by simp [PyData.eqv, PyData.eqvAll]] at e
            exact nomatch e
      · exact ⟨s5.trans s6, tl, s6 _ _ d5, Nat.le_succ_of_le ltl, mtl⟩
    obtain ⟨s5, tl, d5, ltl, mtl⟩ := q
    refine ⟨Nat.zero_le _, fun mk hmk => ?_⟩
    obtain ⟨pa, pb, pz, _⟩ := id p4
    have nDp : D ≠ p := Ne.symm (ne_of_none pz hD)
    have nDt : D ≠ t := Ne.symm (ne_of_none t4 hD)
    have nDk : D ≠ kk := Ne.symm (ne_of_none k4 hD)
    have nmp : mk ≠ p := Ne.symm (ne_of_none (s5 _ _ pz) hmk)
    have nmt : mk ≠ t := Ne.symm (ne_of_none (s5 _ _ t4) hmk)
    have nmk : mk ≠ kk := Ne.symm (ne_of_none (s5 _ _ k4) hmk)
    have nDm : D ≠ mk := ne_of_none d5 hmk
    have s6 : Same H5 (upd H5 mk (.lst [])) := Same.upd hmk
    have m6 : upd H5 mk (.lst []) mk = some (.lst []) := upd_same
    generalize upd H5 mk (.lst []) = H6 at s6 m6 ⊢
    have s46 := s5.trans s6
    refine ⟨_, rfl, p, 4, rfl, p4.same s46, by decide, by decide, fun r2 H7 l2 b7 p7 => ?_⟩
    have t7 := b7 _ _ ne (s46 _ _ t4)
    have k7 := b7 _ _ nek (s46 _ _ k4)
    have d7 := b7 _ _ nDp (s6 _ _ d5)
    have m7 := b7 _ _ nmp m6
    have mu7 : Mu [p, t] H2 H7 := (mu4.trans (.same s46)).trans (.but b7 (by simp))
    refine ⟨_, rfl, by omega, by omega, ?_⟩
    have n2 : ((r2 : Int)).toNat = r2 := by omega
    refine for_range (fun j σ' H' => ∃ (mks : List (Str × List Str)) (ms : List V) (o3 o7 o8 o9 o10 o11 : Option V), σ' = [some (V.ref p), some (V.ref t), some (V.ref kk), o3, some (V.str x), some (V.ref D), some (V.ref mk), o7, o8, o9, o10, o11, none] ∧ Mu [mk, p, t] H7 H' ∧ StA H' p ∧ H' t = some (.lst ((os ++ x :: mks.map (·.1)).map V.str)) ∧ (os ++ x :: mks.map (·.1)).length ≤ 4 * i + 1 + j ∧
        H' mk = some (.lst ms) ∧ mks.length = j ∧ (os ++ x :: mks.map (·.1)).Nodup ∧ (∀ y ∈ os ++ x :: mks.map (·.1), Nm y) ∧ (∀ m ∈ mks, m.2.length ≤ 2 ∧ ∀ y ∈ m.2, y = x ∨ Told kds y) ∧ (∀ m, mks[0]? = some m → x ∉ m.2) ∧ Each (MkR [mk, kk, p, t] H') ms mks)
      ⟨[], [], _, _, _, _, _, _, rfl, .refl H7, p7, t7, by rw [List.length_append]; exact Nat.succ_le_succ lo, m7, rfl, ?_, ?_, (fun y hy => nomatch hy), (fun y hy => nomatch hy), .nil⟩ (fun j σ' H8 hj q => ?_) (fun σ' H8 q => ?_)
    · refine List.nodup_append.mpr ⟨ndo, List.nodup_cons.mpr ⟨(fun z => nomatch z), List.nodup_nil⟩, fun a ha c hc => ?_⟩
      rw [List.mem_singleton.mp hc]
      exact fun z => nxo (z ▸ ha)
    · intro y hy
      rcases List.mem_append.mp hy with h | h
      · exact gno y h
      · rw [List.mem_singleton.mp h]
        exact ⟨gx, nx1, nx7⟩
    · obtain ⟨mks, ms, q3, q7, q8, q9, q10, q11, rfl, mu8, p8, t8, lo', m8, lmk, nd8, gn8, tk8, fst8, am⟩ := q
      have lm := am.length
      generalize eos' : os ++ x :: mks.map (·.1) = os' at t8 lo' nd8 gn8
      have j3 : j < 3 := by
        have hj : j < ((r2 : Int)).toNat := hj
        omega
      refine ⟨_, rfl, _, rfl, p, t, os', rfl, p8, t8, ne, by omega, fun y H9 gy nyo ny7 ny1 b9 p9 => ?_⟩
      have t9 := b9 _ _ ne t8
      refine ⟨_, rfl, .inl ⟨rfl, _, SqL.of t9⟩, _, rfl, _, _, _, rfl, rfl, t9, ?_, ?_⟩
      · rw [List.length_map]
        exact Nat.lt_of_le_of_lt (show os'.length ≤ 1000 by omega) (by decide)
      have mu10 : Mu [p, t] H8 (upd H9 t (.lst (os'.map V.str ++ [V.str y]))) := (Mu.but b9 (by simp)).trans (Mu.upd (by simp))
      have p10 : StA (upd H9 t (.lst (os'.map V.str ++ [V.str y]))) p := by
        obtain ⟨a, b, z, r⟩ := p9
        exact ⟨a, b, by rw [upd_ne (Ne.symm ne)]; exact z, r⟩
      have t10 : upd H9 t (.lst (os'.map V.str ++ [V.str y])) t = some (.lst ((os' ++ [y]).map V.str)) := by rw [upd_same, List.map_append] <;> rfl
      generalize upd H9 t (.lst (os'.map V.str ++ [V.str y])) = H10 at mu10 p10 t10 ⊢
      have d10 : H10 D = some (.lst (tl.map V.str)) := mu10 _ _ (by simp [nDp, nDt]) (mu8 _ _ (by simp [nDm, nDp, nDt]) d7)
      have m10 := mu10 _ _ (by simp [nmp, nmt]) m8
      have k10 : H10 kk = some (.lst us) := mu10 _ _ nkt (mu8 _ _ (by simp [Ne.symm nmk, nek, nekt]) k7)
      refine ⟨Nat.zero_le _, fun tk htk => ?_⟩
      obtain ⟨pa', pb', pz', _⟩ := id p10
      have ntp : tk ≠ p := Ne.symm (ne_of_none pz' htk)
      have ntt : tk ≠ t := Ne.symm (ne_of_none t10 htk)
      have ntk : tk ≠ kk := Ne.symm (ne_of_none k10 htk)
      have ntm : tk ≠ mk := Ne.symm (ne_of_none m10 htk)
      have ntD : D ≠ tk := ne_of_none d10 htk
      have s11 : Same H10 (upd H10 tk (.lst [])) := Same.upd htk
      have tk11 : upd H10 tk (.lst []) tk = some (.lst []) := upd_same
      generalize upd H10 tk (.lst []) = H11 at s11 tk11 ⊢
      refine ⟨_, rfl, p, 3, rfl, p10.same s11, by decide, by decide, fun r3 H12 l3 b12 p12 => ?_⟩
      have tk12 := b12 _ _ ntp tk11
      have mu12 : Mu [p, t] H8 H12 := (mu10.trans (.same s11)).trans (.but b12 (by simp))
      have d12 := b12 _ _ nDp (s11 _ _ d10)
      refine ⟨_, rfl, by omega, by omega, ?_⟩
      refine for_range (fun e σ' H' => ∃ (ts : List Str) (o10 o11 : Option V), σ' = [some (V.ref p), some (V.ref t), some (V.ref kk), q3, some (V.str x), some (V.ref D), some (V.ref mk), some (V.int (0 + (j : Nat))), some (V.str y), some (V.ref tk), o10, o11, none] ∧ Mu [tk, p] H12 H' ∧ StA H' p ∧
          H' tk = some (.lst (ts.map V.str)) ∧ ts.length ≤ e ∧ ∀ z ∈ ts, (z = x ∧ 1 ≤ j) ∨ Told kds z)
        ⟨[], _, _, rfl, .refl H12, p12, tk12, Nat.le_refl _, (fun y hy => nomatch hy)⟩ (fun e σ' H13 he q => ?_) (fun σ' H13 q => ?_)
      · obtain ⟨ts, o10, o11, rfl, mu13, p13, tk13, lts, mts⟩ := q
        have e2 : e < 2 := by
          have he : e < ((r3 : Int)).toNat := he
          omega
        have d13 : H13 D = some (.lst (tl.map V.str)) := mu13 _ _ (by simp [ntD, nDp]) d12
        refine ⟨_, rfl, _, rfl, by show 1 ≤ sizeLine; decide, fun q1 hq1 => ?_⟩
        have sa : Same H13 (upd H13 q1 (.lst [V.str x])) := Same.upd hq1
        refine ⟨_, rfl, _, _, rfl, ?_⟩
        obtain ⟨n, hn, hn1, hnj⟩ : ∃ n : Nat, ((if (1 : Int) < (0 + (j : Int)) then 1 else (0 + (j : Int))) = (n : Int)) ∧ n ≤ 1 ∧ (1 ≤ n → 1 ≤ j) := by
          by_cases hj1 : (1 : Int) < (0 + (j : Int))
          · exact ⟨1, if_pos hj1, Nat.le_refl _, fun _ => by omega⟩
          · exact ⟨j, by rw [if_neg hj1]; omega, by omega, fun z => z⟩
        show rRep _ (V.int (if (1 : Int) < (0 + (j : Int)) then 1 else (0 + (j : Int)))) _ _
        rw [hn]
        refine ⟨_, _, _, rfl, rfl, upd_same, by omega, by omega, Nat.le_trans (show _ ≤ 1 by simpa using hn1) (by decide), fun q2 hq2 => ?_⟩
        have er : (List.replicate ((n : Int)).toNat [V.str x]).flatten = (List.replicate n x).map V.str := by
          match n, hn1 with
          | 0, _ => rfl
          | 1, _ => rfl
        rw [er]
        have sb := sa.trans (Same.upd (o := .lst ((List.replicate n x).map V.str)) hq2)
        refine ⟨_, _, _, _, rfl, rfl, sb _ _ d13, upd_same, ?_, fun q4 hq4 => ?_⟩
        · rw [List.length_map, List.length_map, List.length_replicate]
          exact Nat.le_trans (show tl.length + n ≤ 1000 by omega) (by decide)
        have sc := sb.trans (Same.upd (o := .lst (tl.map V.str ++ (List.replicate n x).map V.str)) hq4)
        have some14 : upd (upd (upd H13 q1 (.lst [V.str x])) q2 (.lst ((List.replicate n x).map V.str))) q4 (.lst (tl.map V.str ++ (List.replicate n x).map V.str)) q4 = some (.lst ((tl ++ List.replicate n x).map V.str)) := by rw [upd_same, List.map_append]
        have mso : ∀ z ∈ tl ++ List.replicate n x, (z = x ∧ 1 ≤ j) ∨ Told kds z := fun z hz => by
          rcases List.mem_append.mp hz with h | h
          · exact .inr (mtl z h)
          · refine .inl ⟨List.eq_of_mem_replicate h, hnj ?_⟩
            have := List.length_pos_of_mem h
            rw [List.length_replicate] at this
            exact this
        have lso : (tl ++ List.replicate n x).length ≤ 1000 := by
          rw [List.length_append, List.length_replicate]
          omega
        generalize tl ++ List.replicate n x = so at some14 mso lso
        have ntq : q4 ≠ p := by
          obtain ⟨a, b, z, _⟩ := p13
          exact Ne.symm (ne_of_none (sb _ _ z) hq4)
        have ntq2 : tk ≠ q4 := ne_of_none (sb _ _ tk13) hq4
        have gks : ∀ z, (z = x ∧ 1 ≤ j) ∨ Told kds z → G z := fun z hz => by
          rcases hz with ⟨rfl, _⟩ | ⟨k', hk', rfl, _⟩
          · exact gx
          · exact gkn k' hk'
        generalize upd (upd (upd H13 q1 (.lst [V.str x])) q2 (.lst ((List.replicate n x).map V.str))) q4 (.lst (tl.map V.str ++ (List.replicate n x).map V.str)) = H14 at sc some14 ⊢
        refine ⟨_, rfl, Nat.zero_le _, fun q5 hq5 => ?_⟩
        have sd := sc.trans (Same.upd (o := .lst []) hq5)
        have some15 : upd H14 q5 (.lst []) q4 = some (.lst (so.map V.str)) := by
          rw [upd_ne (ne_of_none some14 hq5)]
          exact some14
        have nil15 : upd H14 q5 (.lst []) q5 = some (.lst []) := upd_same
        generalize upd H14 q5 (.lst []) = H15 at sd some15 nil15 ⊢
        refine ⟨_, _, .lst (SqL.of some15) (strs_dp so), .lst (SqL.of nil15) .nil, shaped_strs fun z hz => gks z (mso z hz), shaped_strs (ts := []) (fun _ h => nomatch h), _, rfl, ite2 (fun ee => ?_) (fun ee => ?_)⟩
        · have sne : 0 < so.length := by
            cases so with
            | nil => rw [show PyData.eqv (.list (List.map PyData.str [])) (.list []) = true by simp [PyData.eqv, PyData.eqvAll]] at ee; exact nomatch ee
            | cons _ _ => simp
          have tk15 := sd _ _ tk13
          refine ⟨_, rfl, .inl ⟨rfl, _, SqL.of tk15⟩, _, rfl, _, rfl, _, rfl, _, _, rfl, .inl (SqL.of some15), ?_⟩
          rw [List.length_map]
          refine ⟨p, so.length, rfl, p13.same sd, sne, by omega, fun r5 H16 l5 b16 p16 => ?_⟩
          have so16 := b16 _ _ ntq some15
          have tk16 := b16 _ _ ntp tk15
          obtain ⟨z, hz⟩ : ∃ z, so[r5]? = some z := ⟨_, List.getElem?_eq_getElem l5⟩
          refine ⟨_, _, _, _, rfl, rfl, SqL.of so16, atI_nat (v := V.str z) (by rw [List.getElem?_map, hz] <;> rfl), _, _, _, rfl, rfl, tk16, ?_, ?_⟩
          · rw [List.length_map]
            exact Nat.lt_of_le_of_lt (show ts.length ≤ 1000 by omega) (by decide)
          refine ⟨ts ++ [z], _, _, rfl, ((mu13.trans (.same sd)).trans (.but b16 (by simp))).trans (Mu.upd (by simp)), ?_, by rw [upd_same, List.map_append] <;> rfl, by rw [List.length_append]; exact Nat.succ_le_succ lts, fun z' hz' => ?_⟩
          · obtain ⟨a, b, w, r⟩ := p16
            exact ⟨a, b, by rw [upd_ne (Ne.symm ntp)]; exact w, r⟩
          · rcases List.mem_append.mp hz' with h | h
            · exact mts z' h
            · rw [List.mem_singleton.mp h]
              exact mso z (List.mem_of_getElem? hz)
        · exact ⟨ts, _, _, rfl, mu13.trans (.same sd), p13.same sd, sd _ _ tk13, Nat.le_succ_of_le lts, mts⟩
      · obtain ⟨ts, o10, o11, rfl, mu13, p13, tk13, lts, mts⟩ := q
        have ltk : ts.length ≤ 2 := by
          have lts : ts.length ≤ ((r3 : Int)).toNat := lts
          omega
        have mo : Mu [p, t] H8 H13 := fun a o hn ha => by
          have h10 := mu10 _ _ hn ha
          have hp' : a ≠ p := fun z => hn (by simp [z])
          refine mu13 _ _ ?_ (b12 _ _ hp' (s11 _ _ h10))
          simp [ne_of_none h10 htk, hp']
        have m13 := mo _ _ (by simp [nmp, nmt]) m8
        have t13 := mu13 _ _ (by simp [Ne.symm ntt, ne]) (b12 _ _ ne (s11 _ _ t10))
        have k13 : H13 kk = some (.lst us) := mo _ _ nkt (mu8 _ _ (by simp [Ne.symm nmk, nek, nekt]) k7)
        refine ⟨_, rfl, .inl ⟨rfl, _, SqL.of m13⟩, _, rfl, _, rfl, by show 2 ≤ sizeLine; decide, fun b hb => ?_⟩
        have nbm : b ≠ mk := Ne.symm (ne_of_none m13 hb)
        have nbt : b ≠ t := Ne.symm (ne_of_none t13 hb)
        have nbk : b ≠ kk := Ne.symm (ne_of_none k13 hb)
        have ntb : tk ≠ b := ne_of_none tk13 hb
        have nbp : b ≠ p := by
          obtain ⟨_, _, z, _⟩ := p13
          exact Ne.symm (ne_of_none z hb)
        have mf : Mu [mk, p, t] H8 (upd (upd H13 b (.tup [V.str y, V.ref tk])) mk (.lst (ms ++ [V.ref b]))) := ((mo.sub (by simp)).trans (.new hb)).trans (.upd (by simp))
        have eo3 : os ++ x :: (mks ++ [(y, ts)]).map (·.1) = os' ++ [y] := by
          rw [← eos']
          simp
        refine ⟨_, _, _, rfl, rfl, by rw [upd_ne (Ne.symm nbm)]; exact m13, ?_, mks ++ [(y, ts)], ms ++ [V.ref b], _, _, _, _, _, _, rfl, mu8.trans mf, ?_, ?_, ?_, upd_same, ?_, ?_, ?_, fun m hm => ?_, fun m hm => ?_, ?_⟩
        · exact Nat.lt_of_le_of_lt (show ms.length ≤ 1000 by omega) (by decide)
        · obtain ⟨a, c, z, r⟩ := p13
          exact ⟨a, c, by rw [upd_ne (Ne.symm nmp), upd_ne (Ne.symm nbp)]; exact z, r⟩
        · rw [upd_ne (Ne.symm nmt), upd_ne (Ne.symm nbt), eo3]
          exact t13
        · rw [eo3, List.length_append]
          show _ + 1 ≤ _
          omega
        · rw [List.length_append, lmk]
          rfl
        · rw [eo3]
          refine List.nodup_append.mpr ⟨nd8, List.nodup_cons.mpr ⟨(fun z => nomatch z), List.nodup_nil⟩, fun a ha c hc => ?_⟩
          rw [List.mem_singleton.mp hc]
          exact fun z => nyo (z ▸ ha)
        · intro z hz
          rw [eo3] at hz
          rcases List.mem_append.mp hz with h | h
          · exact gn8 z h
          · rw [List.mem_singleton.mp h]
            exact ⟨gy, ny1, ny7⟩
        · rcases List.mem_append.mp hm with h | h
          · exact tk8 m h
          · rw [List.mem_singleton.mp h]
            exact ⟨ltk, fun z hz => (mts z hz).imp (fun q => q.1) id⟩
        · cases mks with
          | nil =>
            rw [← Option.some.inj (show some (y, ts) = some m from hm)]
            intro z
            rcases mts x z with ⟨_, h1⟩ | ⟨k', hk', e', _⟩
            · have : (0 : Nat) = j := lmk
              omega
            · exact nxo (by rw [← eos, ← e']; exact osOf_mem hk')
          | cons m0 mr => exact fst8 m hm
        · exact Each.snoc ⟨b, tk, rfl, ⟨by rw [upd_ne nbm, upd_same], by simp [nbm, nbk, nbp, nbt]⟩, ⟨by rw [upd_ne ntm, upd_ne ntb]; exact tk13, by simp [ntm, ntk, ntp, ntt]⟩⟩ (am.imp fun v r h => h.mono (mf.sub (by simp +contextual)))
    · obtain ⟨mks, ms, q3, q7, q8, q9, q10, q11, rfl, mu8, p8, t8, lo', m8, lmk, nd8, gn8, tk8, fst8, am⟩ := q
      have lo2 : (os ++ x :: mks.map (·.1)).length ≤ 4 * i + 1 + ((r2 : Int)).toNat := lo'
      have lm2 : mks.length = ((r2 : Int)).toNat := lmk
      have eo2 : osOf (kds ++ [(x, mks)]) = os ++ x :: mks.map (·.1) := by rw [osOf_snoc, eos]
      have k8 : H8 kk = some (.lst us) := mu8 _ _ (by simp [Ne.symm nmk, nek, nekt]) k7
      have mo : Mu [p, t] H2 H8 := fun a o hn ha => by
        have h4 := mu4 _ _ hn ha
        have hp' : a ≠ p := fun z => hn (by simp [z])
        have ht' : a ≠ t := fun z => hn (by simp [z])
        have h5 := s5 _ _ h4
        refine mu8 _ _ ?_ (b7 _ _ hp' (s6 _ _ h5))
        simp [ne_of_none h5 hmk, hp', ht']
      refine ⟨_, rfl, .inl ⟨rfl, _, SqL.of k8⟩, _, rfl, _, rfl, by show 2 ≤ sizeLine; decide, fun b hb => ?_⟩
      have nbm : b ≠ mk := Ne.symm (ne_of_none m8 hb)
      have nbt : b ≠ t := Ne.symm (ne_of_none t8 hb)
      have nbk : b ≠ kk := Ne.symm (ne_of_none k8 hb)
      have nbp : b ≠ p := by
        obtain ⟨_, _, z, _⟩ := p8
        exact Ne.symm (ne_of_none z hb)
      have mg' : Mu [kk, p, t] H8 (upd (upd H8 b (.tup [V.str x, V.ref mk])) kk (.lst (us ++ [V.ref b]))) := (Mu.new hb).trans (.upd (by simp))
      have mf : Mu [kk, p, t] H2 (upd (upd H8 b (.tup [V.str x, V.ref mk])) kk (.lst (us ++ [V.ref b]))) := (mo.sub (by simp)).trans mg'
      refine ⟨_, _, _, rfl, rfl, by rw [upd_ne (Ne.symm nbk)]; exact k8, ?_, kds ++ [(x, mks)], us ++ [V.ref b], _, _, _, _, _, _, _, _, _, rfl, m2.trans mf, ?_, ?_, by rw [eo2]; omega, upd_same, by rw [List.length_append, lk] <;> rfl, by rw [eo2]; exact nd8, by rw [eo2]; exact gn8, fun i' x' hx' => ?_, ?_⟩
      · exact Nat.lt_of_le_of_lt (show us.length ≤ 1000 by omega) (by decide)
      · obtain ⟨a, c, z, r⟩ := p8
        exact ⟨a, c, by rw [upd_ne (Ne.symm nek), upd_ne (Ne.symm nbp)]; exact z, r⟩
      · rw [upd_ne (Ne.symm nekt), upd_ne (Ne.symm nbt), eo2]
        exact t8
      · rcases Nat.lt_or_ge i' kds.length with hl | hg
        · rw [List.getElem?_append_left hl] at hx'
          rw [List.take_append_of_le_length (Nat.le_of_lt hl)]
          exact gdk i' x' hx'
        · have hi' := (List.getElem?_eq_some_iff.mp hx').1
          rw [List.length_append] at hi'
          have hi'' : i' < kds.length + 1 := hi'
          have : i' = kds.length := by omega
          subst this
          rw [List.getElem?_append_right (Nat.le_refl _), Nat.sub_self] at hx'
          rw [← Option.some.inj (show some (x, mks) = some x' from hx'), List.take_append_of_le_length (Nat.le_refl _), List.take_length]
          exact ⟨by show mks.length ≤ 3; omega, tk8, fst8⟩
      · exact Each.snoc ⟨b, mk, ms, rfl, ⟨by rw [upd_ne nbk, upd_same], by simp [nbk, nbp, nbt]⟩, ⟨by rw [upd_ne nmk, upd_ne (Ne.symm nbm)]; exact m8, by simp [nmk, nmp, nmt]⟩, am.imp fun v r h => (h.drop (by simp +contextual)).mono mg'⟩ (uk.imp fun v r h => h.mono mf)
  · obtain ⟨kds, us, o3, o4, o5, o6, o7, o8, o9, o10, o11, rfl, m2, p2, t2, lo, k2, lk, ndo, gno, gdk, uk⟩ := q
    have lk2 : kds.length = ((1 : Int) + (r1 : Int)).toNat := lk
    have lo2 : (osOf kds).length ≤ 4 * ((1 : Int) + (r1 : Int)).toNat := lo
    refine ⟨_, rfl, kq kk _ kds us (fun a o hn ha => ?_) p2 t2 ndo gno (by omega) hkk ⟨k2, by simp [nek, nekt]⟩ (by omega) (by omega) gdk (uk.imp fun v r h => h.drop (by simp +contextual))⟩
    have hp' : a ≠ p := fun z => hn (by simp [z])
    have ht' : a ≠ t := fun z => hn (by simp [z])
    exact m2 _ _ (by simp [ne_of_none ha hkk, hp', ht']) (b1 _ _ hp' (sK _ _ ha))
end
end KD

/-! DRk: _law_drawn_ground. -/
namespace KD
open PySem PySem.Spec PyProof.Rows L2 LamX NdefX KM
theorem each_map {β α γ : Type} {R : β → γ → Prop} {f : α → γ} : ∀ {vs : List β} {rs : List α}, Each (fun v r => R v (f r)) vs rs → Each R vs (rs.map f)
  | _, _, .nil => .nil
  | _, _, .cons a b => .cons a (each_map b)
/-- a drawn ground: kinds with their makers, open works -/
structure DGr (kds : List KRow) (rows : List Row) : Prop where
  nd : (osOf kds ++ rows.map (·.1)).Nodup
  nm : ∀ y ∈ osOf kds, Nm y
  l1 : 1 ≤ kds.length
  l4 : kds.length ≤ 4
  gd : ∀ i x, kds[i]? = some x → GdK (kds.take i) x
  lr : rows.length ≤ 4
  rg : ∀ r ∈ rows, RowG (kds.map (·.1)) r
  lo : (osOf kds).length ≤ 16
def spGround : Sp := fun vs H Q _ => ∃ p : Addr, vs = [.ref p] ∧ StA H p ∧ ∀ (g kk wk : Addr) (H' : Hp) (kds : List KRow) (us ws : List V) (rows : List Row), ButS p H H' → StA H' p → H' g = some (.tup [.ref kk, .ref wk]) → Sb [p] H' kk (.lst us) → Sb [p] H' wk (.lst ws) →
  DGr kds rows → Each (KdR [p] H') us kds → Each (WAt [p] H') ws rows → Q (.ref g) H'
abbrev nGr : List Str := ["_law_state_here", "_law_taken", "_law_kinds_here", "_law_works_here"]
theorem scGr : FnScope nGr ["_law_state_here"] (defScope (top 50)) := ⟨rfl, rfl, rfl, by decide +kernel, rfl, by decide +kernel, by decide +kernel⟩
section
variable {P : Program} {w : World} {K : PySem.W.Frag} {mg : Str → Option Value} {base : Heap} {f fr' fw fk fv : Addr} {fd fdd fdw fdk fdv : FuncData}
theorem ok_ground (F : Fun K "_law_drawn_ground" "_law_drawn_ground" (top 50) f fd) (Fd : Fun K "_law_draw" "_law_draw" (top 45) fr' fdd) (bd : Binds K fdd ["_law_state_here", "_law_many"] []) (md : mg "_law_draw" = some (.ref fr'))
    (Fw : Fun K "_law_word" "_law_word" (top 46) fw fdw) (bw : Binds K fdw ["_law_state_here", "_law_others"] []) (mw : mg "_law_word" = some (.ref fw)) (Fk : Fun K "_law_kinds" "_law_kinds" (top 47) fk fdk) (bk : Binds K fdk ["_law_state_here", "_law_taken"] []) (mk : mg "_law_kinds" = some (.ref fk))
    (Fv : Fun K "_law_works" "_law_works" (top 48) fv fdv) (bv : Binds K fdv ["_law_state_here", "_law_kinds_here", "_law_taken"] []) (mv : mg "_law_works" = some (.ref fv)) (X : TxtL mg) (k : Nat) : FnOk P w K mg base CX0 (4 + k) f fd ["_law_state_here"] spGround := by
  rw [show 4 + k = (3 + k) + 1 by omega]
  refine F.ok scGr (fun vs H Q E h => ?_) (fun cdv A0 outer s H vs Q E hr hq => ?_)
  · obtain ⟨p, rfl, _⟩ := h
    rfl
  obtain ⟨p, rfl, hp, kq⟩ := hq
  refine ⟨_, pss_cons (ps_set (i := 1) scGr.nd rfl (Or.inl rfl) (pe_lst pa_nil))
    (pss_cons (ps_set (i := 2) scGr.nd rfl (Or.inl rfl) (pe_call (ok_kinds Fk Fd bd md Fw bw mw X k) hr rfl mk Fk.kp bk .nil pass0 (pa_cons (pv 0) (pa_cons (pv 1) pa_nil))))
    (pss_cons (ps_set (i := 3) scGr.nd rfl (Or.inl rfl) (pe_call (ok_works Fv Fd bd md Fw bw mw X k) hr rfl mv Fv.kp bv .nil pass0 (pa_cons (pv 0) (pa_cons (pv 2) (pa_cons (pv 1) pa_nil)))))
    (pss_one (ps_ret (pe_tup (pa_cons (pv 2) (pa_cons (pv 3) pa_nil))))))), ?_⟩
  refine ⟨Nat.zero_le _, fun t ht => ?_⟩
  have s0 : Same H (upd H t (.lst [])) := Same.upd ht
  have ntp := hp.not ht
  have p0 := hp.upd (o := .lst []) ntp
  have t0 : upd H t (.lst []) t = some (.lst []) := upd_same
  generalize upd H t (.lst []) = H0 at s0 p0 t0 ⊢
  refine ⟨_, rfl, _, rfl, p, t, rfl, p0, t0, ntp, fun kk H1 kds us m1 p1 t1 ndo nmo lo hkk hk l1 l4 gdk uk => ?_⟩
  have uo : Each (OAt [p, t] H1) us (kds.map (·.1)) := each_map (uk.imp fun v r h => by
    obtain ⟨a, mk', ms, e, h1, _⟩ := h
    exact ⟨a, mk', e, h1⟩)
  refine ⟨_, rfl, _, rfl, _, rfl, p, kk, t, kds.map (·.1), osOf kds, us, rfl, p1, t1, lo, ndo, ntp, hk, by rw [List.length_map]; omega, by rw [List.length_map]; omega, uo, fun wk H2 ws rows m2 p2 t2 nd2 hwk hw lr rg aw => ?_⟩
  refine ⟨_, rfl, _, rfl, by show 2 ≤ sizeLine; decide, fun g hg => ?_⟩
  have sg : Same H2 (upd H2 g (.tup [V.ref kk, V.ref wk])) := Same.upd hg
  refine kq g kk wk _ kds us ws rows (fun a o hn ha => ?_) (p2.same sg) upd_same ⟨sg _ _ (m2 _ _ hk.2 hk.1), fun z => hk.2 (by simp at z; simp [z])⟩ ⟨sg _ _ hw.1, fun z => hw.2 (by simp at z; simp [z])⟩ ⟨nd2, nmo, l1, l4, gdk, lr, rg, lo⟩ (uk.imp fun v r h => ((h.mono m2).drop (by simp)).mono (.same sg)) (aw.imp fun v r h => (h.drop (by simp)).mono (.same sg))
  have hn2 : a ∉ [p, t] := by simp [hn, ne_of_none ha ht]
  exact sg _ _ (m2 _ _ hn2 (m1 _ _ hn2 (s0 _ _ ha)))
end
end KD

/-! GX1: a generator expression's frame as a context of the hand layer: its start, its loop. -/
namespace GX
open PySem PySem.Spec PyProof.Rows L2 GenW
open Sem (wp)

/-- the context of a generator expression's frame: made at s, its iterator's objects at fp -/
abbrev gx (X : Cx) (A0 : Around) (s : Shared) (H : Hp) (cenv : Env) (fp : List Addr) : Cx :=
  { X with A := A0.deeper cenv, s_0 := s, H_0 := H, env := cenv, outer := X.stack, stack := cenv :: X.stack, ex := fp, fn := fun _ => false, calm := true, pn := [], xe := fun _ _ => False }

abbrev gEnv (X : Cx) (scope : Scope) (C : Addr) (code : Value) : Env := genEnv scope (cloFrom X.env.cells scope.names []) C code builtinsNs X.env

section
variable {X : Cx} {pins : List (Addr × Obj)} {σ : L2.St} {H : Hp} {s : Shared}
theorem gx_start {A0 : Around} {scope : Scope} {own : List (Str × Nat)} {fp : List Addr} {code : Value} {h' : Heap} {m : Str → Option Value} {g' : Array GenState} {t' : Nat} (I : Inv X pins σ H s) (ok : BlkOk X.N X.env.scope scope own) (hN : X.N.Nodup)
    (hcell : ∀ y ∈ scope.names, y.2 ≠ .cell) (hfp : ∀ b ∈ fp, FpOk X pins H b ∧ b < s.heap.objs.size) (hfr : A0.frames = some X.stack) (hhd : A0.handled = none) (hn : h'.Ns s.heap.objs.size m) (kp : ∀ b o, s.heap.get? b = some o → h'.get? b = some o) (hg : AllBare g') :
    Inv (gx X A0 s H (gEnv X scope s.heap.objs.size code) fp) [] (wipe σ (own.map (·.2))) H { s with heap := h', gens := g', toks := t' } := by
  have hfree : ∀ y ∈ scope.names, y.2 = .free → ∃ c, X.env.cells.lookup y.1 = some c := fun y hy e => by
    rcases ok.free y hy e with k | k
    · exact I.ok.has _ (.inl k)
    · exact I.ok.has _ (.inr k)
  generalize hcenv : gEnv X scope s.heap.objs.size code = cenv
  have hL : cenv.locals = s.heap.objs.size := by rw [← hcenv]; rfl
  have hcl : cenv.cells = cloFrom X.env.cells scope.names [] := by rw [← hcenv]; rfl
  have hsc : cenv.scope = scope := by rw [← hcenv]; rfl
  have cm : ∀ {y c}, cenv.cells.lookup y = some c → X.env.cells.lookup y = some c ∧ c < s.heap.objs.size ∧ (y, NameKind.free) ∈ scope.names := fun {y c} e => by
    rw [hcl] at e
    rcases cloFrom_mem (PySem.mem_of_lookup e) with hm | ⟨h1, rfl⟩
    · cases hm
    · obtain ⟨c, hc⟩ := hfree _ h1 rfl
      rw [hc]
      obtain ⟨w, z⟩ := I.cell _ _ hc
      exact ⟨rfl, z.lt, h1⟩
  have look : ∀ {y}, scope.names.lookup y = some .free → ∃ c, cenv.cells.lookup y = some c ∧ X.env.cells.lookup y = some c := fun {y} hl => by
    have hy : (y, NameKind.free) ∈ scope.names := PySem.mem_of_lookup hl
    obtain ⟨c', e'⟩ := mem_lookup (cloFrom_has (cells := X.env.cells) (acc := []) hy)
    rw [← hcl] at e'
    exact ⟨c', e', (cm e').1⟩
  have okB : (gx X A0 s H cenv fp).Ok := by
    refine ⟨I.ok.mod, by show cenv.scope.kind = _; rw [hsc]; exact ok.kind, by show cenv.globals = _; rw [← hcenv]; exact I.ok.glob, by show cenv.builtins = _; rw [← hcenv]; rfl, by show s.heap.objs.size ≤ cenv.locals; rw [hL]; exact Nat.le_refl _,
      fun y z c e1 e2 => I.ok.inj y z c (cm e1).1 (cm e2).1, fun y hy => ?_, fun y c z e => ?_, fun _ => hhd, Around.frames_deeper hfr, .inr ⟨rfl, by show cenv.frame = some cenv.locals; rw [← hcenv]; rfl⟩, fun b hb => ⟨?_, fun y c e z => ?_⟩, I.bs, Nat.le_trans I.ok.bsz I.sz, fun b o e hb => ?_, fun b hb z => ?_, I.stack, I.stkFree⟩
    · have hy : cenv.scope.names.lookup y = some .cell ∨ cenv.scope.names.lookup y = some .free := hy
      rw [hsc] at hy
      rcases hy with hy | hy
      · exact absurd rfl (hcell _ (PySem.mem_of_lookup hy))
      · obtain ⟨c, h1, _⟩ := look hy
        exact ⟨c, h1⟩
    · exact Bool.noConfusion (show false = true from z)
    · show b ≠ cenv.locals
      rw [hL]; exact Nat.ne_of_lt (hfp b hb).2
    · exact (hfp b hb).1.2.2.2.2.1 y c (cm e).1 z
    · rcases (hfp b hb).1.2.2.2.1 with z | z
      · exact I.ok.noex b o e z
      · exact absurd (Nat.lt_of_lt_of_le (Heap.lt_size e) (Nat.le_trans I.ok.bsz z)) (Nat.lt_irrefl _)
    · rcases List.mem_cons.mp (I.stkSub b z) with z | z
      · exact (hfp b hb).1.2.1 z
      · exact (hfp b hb).1.2.2.1 z
  refine ⟨okB, rfl, hg, Un.kept kp, ⟨m, ?_, fun i y av e1 e2 e3 => ?_⟩, fun y c e => ?_, ?_, fun y c e => ?_, fun p hp => ?_, I.hok.kept kp, by rw [wipe_length]; exact I.len⟩
  · show Heap.Ns _ cenv.locals _
    rw [hL]
    exact hn
  · obtain ⟨e2, hne⟩ := wipe_some e2
    have hfr' : scope.names.lookup y = some .free := by
      have no : ¬ (scope.names.lookup y = some .local ∨ scope.names.lookup y = some .cell) := fun hh => by
        have : y ∈ own.map (·.1) ∨ y ∉ X.N := by
          rcases hh with hh | hh
          · exact ok.own _ (PySem.mem_of_lookup hh) (.inl rfl)
          · exact ok.own _ (PySem.mem_of_lookup hh) (.inr rfl)
        rcases this with e' | e'
        · obtain ⟨p, hp, hpy⟩ := List.mem_map.mp e'
          have e3 := ok.ix p hp
          have : p.1 = y := hpy
          rw [this] at e3
          exact hne (List.mem_map.mpr ⟨p, hp, nodup_ix hN e3 e1⟩)
        · exact e' (List.mem_of_getElem? e1)
      have e3 : cenv.scope.names.lookup y = some .local ∨ cenv.scope.names.lookup y = some .cell ∨ cenv.scope.names.lookup y = some .free := e3
      rw [hsc] at e3
      rcases e3 with e3 | e3 | e3
      · exact absurd (.inl e3) no
      · exact absurd (.inr e3) no
      · exact e3
    obtain ⟨m, hn, hl⟩ := I.loc
    have hvis : Vis X.env.scope y := (ok.free _ (PySem.mem_of_lookup hfr') rfl).elim (fun k => .inr (.inl k)) (fun k => .inr (.inr k))
    obtain ⟨w, r, q⟩ := hl i y av e1 e2 hvis
    refine ⟨w, r, .inr ⟨.inr (by show cenv.scope.names.lookup y = _; rw [hsc]; exact hfr'), ?_⟩⟩
    obtain ⟨c, h1, h2⟩ := look hfr'
    rcases q with ⟨k, _⟩ | ⟨_, c', e', z⟩
    · have k : X.env.scope.names.lookup y = some .local := k
      rcases ok.free _ (PySem.mem_of_lookup hfr') rfl with k' | k' <;> rw [show X.env.scope.names.lookup y = _ from k'] at k <;> cases k
    · rw [h2] at e'; cases e'
      exact ⟨c, h1, z.keeps kp⟩
  · obtain ⟨w, z⟩ := I.cell y c (cm e).1
    exact ⟨w, z.keeps kp⟩
  · show H cenv.locals = none
    rw [hL]; exact I.hok.fresh (Nat.le_refl _)
  · exact I.freeC y c (cm e).1
  · exact absurd (show p ∈ ([] : List (Addr × Obj)) ++ [] from hp) (by simp)

/-- what is held while the generator sleeps: the iterator stands at turn i -/
structure Fact (X : Cx) (pins : List (Addr × Obj)) (σ : L2.St) (fp : List Addr) (tn : Nat → Heap → Prop) (gn : Nat) (W : Nat → Nat → Hp → Prop) (i m : Nat) (H : Hp) (s : Shared) : Prop where
  inv : Inv X pins σ H s
  gsz : gn + 1 ≤ s.gens.size
  tn : tn i s.heap
  free : ∀ b ∈ fp, H b = none
  w : W i m H
/-- the protocol: a Bool is handed out; d ends the walk -/
def GXY (X : Cx) (pins : List (Addr × Obj)) (σ : L2.St) (fp : List Addr) (tn : Nat → Heap → Prop) (gn : Nat) (W : Nat → Nat → Hp → Prop) (d : Bool) (Qe : Bool → Hp → Prop) : Protocol := fun n s₀ v s kap =>
  ∃ (c : Bool) (H : Hp), v = .bool c ∧ Inv X pins σ H s ∧ gn + 1 ≤ s.gens.size ∧ (c = d → Qe d H) ∧
    (c ≠ d → ∀ s'', s''.heap = s.heap → s''.os = s.os → AllBare s''.gens → gn + 1 ≤ s''.gens.size → kap (.send .none) s'')
def GXP (X : Cx) (pins : List (Addr × Obj)) (σ : L2.St) (d : Bool) (Qe : Bool → Hp → Prop) : Nat → Shared → Shared → Prop := fun _ _ s => ∃ H, Inv X pins σ H s ∧ Qe (!d) H
/-- what the turns are to give -/
def GXT (J : It) (g : TG) (tt : TT) (te : TE) (σ : L2.St) (vs : List Nat) (d : Bool) (W : Nat → Nat → Hp → Prop) (Qe : Bool → Hp → Prop) : Prop := ∀ i m H, W i m H →
  (J.stop i H ∧ Qe (!d) H) ∨ (J.go i H ∧ ∃ Nx : Hp → Prop, (∀ H', Nx H' → ∃ m', m' < m ∧ W (i + 1) m' H') ∧ ∀ x H', J.yld i H x H' → g x (wipe σ vs) H' fun σ2 H2 => wipe σ2 vs = wipe σ vs ∧ tt σ2 H2 fun b H3 =>
    if b = true then te σ2 H3 fun y H4 => ∃ c, y = .bl c ∧ (c = d → Qe d H4) ∧ (c ≠ d → Nx H4) else Nx H3)

/-- the same facts at a state with the same heap -/
theorem inv_heap {s'' : Shared} {ps : List (Addr × Obj)} (I : Inv X ps σ H s) (hh : s''.heap = s.heap) (ho : s''.os = s.os) (hb : AllBare s''.gens) : Inv X ps σ H s'' := by
  obtain ⟨h1, g1, d1, t1, o1⟩ := s''
  have hh : h1 = s.heap := hh
  have ho : o1 = s.os := ho
  subst hh ho
  exact ⟨I.ok, I.os, hb, I.base, I.loc, I.cell, I.free, I.freeC, I.pin, I.hok, I.len⟩

theorem gx_loop {elt tg iter : Expr} {ifs : List Expr} {scope : Scope} {pos : Pos} {it a : Addr} {go : Obj} {gn : Nat} {fp : List Addr} {tn : Nat → Heap → Prop} {J : It} {g : TG} {tt : TT} {te : TE} {vs : List Nat} {d : Bool} {W : Nat → Nat → Hp → Prop} {Qe : Bool → Hp → Prop}
    {A0 : Around} {s1 : Shared} {H1 : Hp} {ce : Env} (hco : ce.scope.isCoroutine = false) (T : Turn X.prog X.w X.K tg J fp it tn) (pg : PG (gx X A0 s1 H1 ce fp) tg g) (pt : PTs (gx X A0 s1 H1 ce fp) ifs tt) (pe : PE (gx X A0 s1 H1 ce fp) elt te)
    (ha : ∀ b ∈ fp, a ≠ b) (turn : GXT J g tt te σ vs d W Qe) : ∀ (m n i : Nat) (s₀ s : Shared) (H : Hp), m < n → Fact (gx X A0 s1 H1 ce fp) [(a, go)] (wipe σ vs) fp tn gn W i m H s →
      Seg (model X.prog X.w) A0 (fun n s₀ r s₁ => r = .ok .next ∧ GXP (gx X A0 s1 H1 ce fp) [(a, go)] (wipe σ vs) d Qe n s₀ s₁) (GXY (gx X A0 s1 H1 ce fp) [(a, go)] (wipe σ vs) fp tn gn W d Qe) n s₀
        (.compLoop (.GeneratorExp elt [⟨tg, iter, ifs, 0⟩] scope pos) 0 (.ref it) .none ce) ((model X.prog X.w).den (.compLoop (.GeneratorExp elt [⟨tg, iter, ifs, 0⟩] scope pos) 0 (.ref it) .none ce)) [] s := by
  have stat : ∀ {σ' : L2.St} {H' : Hp} {s' : Shared}, Inv (gx X A0 s1 H1 ce fp) [(a, go)] σ' H' s' → (∀ b ∈ fp, H' b = none) → ∀ b ∈ fp, FpOk (gx X A0 s1 H1 ce fp) [(a, go)] H' b := fun {σ' H' s'} I' hn b hb =>
    ⟨hn b hb, (I'.ok.exf b hb).1, I'.ok.exfs b hb, .inl hb, fun x c e => (I'.ok.exf b hb).2 x c e, fun p hp => by
      have hp : p ∈ ([] : List (Addr × Obj)) ++ [(a, go)] := hp
      have : p = (a, go) := by simpa using hp
      rw [this]; exact ha b hb⟩
  intro m
  induction m using Nat.strongRecOn with
  | ind m ih =>
    intro n i s₀ s H hmn F
    show Seg _ A0 _ _ _ s₀ _ ((compTurn (.GeneratorExp elt [⟨tg, iter, ifs, 0⟩] scope pos) 0 (.ref it) .none ce).onRaise (leaving ce)) [] s
    rw [compTurn_gen, Sem.onRaise_eq_wrap]
    refine seg_bind_wrap (wpAny_standAt ?_)
    rcases turn i m H F.w with ⟨stop, qq⟩ | ⟨go', Nx, hNx, step⟩
    · have td := T.done (gx X A0 s1 H1 ce fp) rfl rfl rfl rfl i _ s _ H (fun _ _ => False) F.inv (stat F.inv F.free) F.tn stop
      refine seg_bind_wrap (thnF td fun r s6 ⟨hr, I6⟩ => ?_)
      subst hr
      exact seg_end (.ok .next) ⟨rfl, H, I6, qq⟩
    · have ti := T.item (gx X A0 s1 H1 ce fp) rfl rfl rfl rfl i _ s _ H (fun _ _ => False) F.inv (stat F.inv F.free) F.tn go'
      refine seg_bind_wrap (wpAny_gsz F.gsz (thnF ti fun r s6 ⟨u, hr, h6⟩ => fun z6 => ?_))
      subst hr
      refine seg_bind_wrap (wpAny_gsz z6 (thnF h6 fun _ s7 ⟨x, H7, I7, r7, y7, st7, n7⟩ => fun z7 => ?_))
      have I7' := I7.pinned (stat I7 n7) (T.obj _ _ st7)
      refine seg_bind_wrap (wpAny_gsz z7 (thnF (pg.run _ s7 _ H7 x u _ I7' r7 (step x H7 y7)) fun _ s8 ⟨σ8, H8, I8, hw8, q8⟩ => fun z8 => ?_))
      refine seg_bind_wrap (wpAny_gsz z8 (thnF (pt.run _ s8 σ8 H8 _ I8 q8) fun b s9 ⟨H9, I9, q9⟩ => fun z9 => ?_))
      have back : ∀ {s' : Shared} {H' : Hp}, Inv (gx X A0 s1 H1 ce fp) ([(a, go)] ++ pinsAt fp s7.heap) σ8 H' s' → Inv (gx X A0 s1 H1 ce fp) [(a, go)] (wipe σ vs) H' s' := fun {s' H'} I' => by
        have hl : (wipe σ vs).length = σ8.length := by rw [← hw8, wipe_length]
        refine (I'.unpinned (pins := [(a, go)])).weak hl fun j v e => ?_
        rw [← hw8] at e
        exact (wipe_some e).1
      have fin : ∀ {s' : Shared} {H' : Hp}, gn + 1 ≤ s'.gens.size → Inv (gx X A0 s1 H1 ce fp) ([(a, go)] ++ pinsAt fp s7.heap) σ8 H' s' → Nx H' → ∃ m', m' < m ∧ Fact (gx X A0 s1 H1 ce fp) [(a, go)] (wipe σ vs) fp tn gn W (i + 1) m' H' s' := fun {s' H'} z I' nx => by
        obtain ⟨m', hm, w'⟩ := hNx H' nx
        have pin' : ∀ b ∈ fp, ∀ o, s7.heap.get? b = some o → s'.heap.get? b = some o ∧ H' b = none := fun b hb o e =>
          let z := I'.pin (b, o) (List.mem_append_right _ (List.mem_append_right _ (mem_pinsAt hb e)))
          ⟨z.1, z.2.1⟩
        refine ⟨m', hm, back I', z, T.keep _ _ _ st7 fun b hb o e => (pin' b hb o e).1, fun b hb => ?_, w'⟩
        obtain ⟨o, e, _⟩ := T.obj _ _ st7 b hb
        exact (pin' b hb o e).2
      cases b with
      | false =>
        simp only [Bool.false_eq_true, if_false] at q9 ⊢
        obtain ⟨m', hm, F'⟩ := fin z9 I9 q9
        exact seg_again rfl (ih m' hm n (i + 1) s₀ s9 H9 (by omega) F')
      | true =>
        simp only [if_true] at q9 ⊢
        have hy : ∀ v, yieldOut ce v = yieldValue v := fun v => by simp only [yieldOut, hco, Bool.false_eq_true, if_false]
        simp only [hy]
        rw [Sem.bind_eq_wrap', Sem.bind_eq_wrap', Sem.wrap_wrap, Sem.wrap_wrap]
        obtain ⟨n', rfl⟩ : ∃ n', n = n' + 1 := ⟨n - 1, by omega⟩
        refine seg_wrap (wpAny_gsz z9 (thnF (pe.run _ s9 σ8 H9 _ I9 q9) fun z s10 ⟨yv, H10, I10, r10, c, hc, hd, hnx⟩ => fun z10 => ?_))
        subst hc
        have hz : z = .bool c := r10
        subst hz
        refine seg_at (seg_yield rfl rfl rfl ⟨c, H10, rfl, back I10, z10, hd, fun hcd s'' e1 e2 e3 e4 => ?_⟩)
        obtain ⟨m', hm, F'⟩ := fin z10 I10 (hnx hcd)
        exact seg_again rfl (ih m' hm n' (i + 1) s'' s'' H10 (by omega) ⟨inv_heap F'.inv e1 e2 e3, e4, by rw [e1]; exact F'.tn, F'.free, F'.w⟩)

theorem gx_startSeg {elt tg iter : Expr} {ifs : List Expr} {scope : Scope} {pos : Pos} {it a : Addr} {go : Obj} {gn : Nat} {fp : List Addr} {tn : Nat → Heap → Prop} {J : It} {g : TG} {tt : TT} {te : TE} {vs : List Nat} {d : Bool} {W : Nat → Nat → Hp → Prop} {Qe : Bool → Hp → Prop}
    {A0 : Around} {s1 : Shared} {H1 : Hp} {ce : Env} (hco : ce.scope.isCoroutine = false) (T : Turn X.prog X.w X.K tg J fp it tn) (pg : PG (gx X A0 s1 H1 ce fp) tg g) (pt : PTs (gx X A0 s1 H1 ce fp) ifs tt) (pe : PE (gx X A0 s1 H1 ce fp) elt te)
    (ha : ∀ b ∈ fp, a ≠ b) (turn : GXT J g tt te σ vs d W Qe) (m n : Nat) (s₀ s : Shared) (H : Hp) (hmn : m < n) (F : Fact (gx X A0 s1 H1 ce fp) [(a, go)] (wipe σ vs) fp tn gn W 0 m H s) :
      Seg (model X.prog X.w) A0 (fun n s₀ r s₁ => r = .ok .next ∧ GXP (gx X A0 s1 H1 ce fp) [(a, go)] (wipe σ vs) d Qe n s₀ s₁) (GXY (gx X A0 s1 H1 ce fp) [(a, go)] (wipe σ vs) fp tn gn W d Qe) n s₀
        (.compStart (.GeneratorExp elt [⟨tg, iter, ifs, 0⟩] scope pos) 0 (.ref it) .none ce) ((model X.prog X.w).den (.compStart (.GeneratorExp elt [⟨tg, iter, ifs, 0⟩] scope pos) 0 (.ref it) .none ce)) [] s := by
  have loop := gx_loop (iter := iter) (scope := scope) (pos := pos) hco T pg pt pe ha turn m n 0 s₀ s H hmn F
  show Seg _ A0 _ _ _ s₀ _ ((compStart (.GeneratorExp elt [⟨tg, iter, ifs, 0⟩] scope pos) 0 (.ref it) .none ce).onRaise (leaving ce)) [] s
  unfold compStart
  rw [Sem.onRaise_eq_wrap]
  show Seg _ A0 _ _ _ s₀ _ ((ask >>= _).wrap _ _ _ _) [] s
  refine seg_bind_wrap (wpAny_askSetting ?_)
  split
  · exact seg_again rfl loop
  · first
      | exact seg_bind_wrap (wpAny_rule (seg_bind_wrap (wpAny_standAt (seg_bind_wrap (T.self _ 0 s _ _ F.tn (seg_again rfl loop))))))
      | (refine seg_bind_wrap (wpAny_rule ?_); show Seg _ A0 _ _ _ s₀ _ ((standAt iter.pos >>= _).wrap _ _ _ _) [] s; exact seg_bind_wrap (wpAny_standAt (seg_bind_wrap (T.self _ 0 s _ _ F.tn (seg_again rfl loop)))))
end
end GX

/-! GX2: any | all walk a generator expression. -/
namespace GX
open PySem PySem.Spec PyProof.Rows L2 GenW
open Sem (wp)

theorem bare_set {s : Shared} {g : Nat} {x : GenState} (h : AllBare s.gens) (hx : x.bare = true) : AllBare (s.setGen g x).gens := by
  intro y hy
  have hy : y ∈ s.gens.setIfInBounds g x := hy
  rcases Array.mem_or_eq_of_mem_setIfInBounds hy with h1 | h1
  · exact h y h1
  · subst h1; exact hx

/-- the generator's own object -/
def GenObj (go : Obj) (gn : Nat) : Prop := ∃ nm qn, go.cls = .type "generator" ∧ go.data = .fields #[.int gn 0, nm, qn] ∧ go.slots = #[]

/-- the generator is ready to be walked, n turns at the most -/
structure Sleeps (G : Cx) (A0 : Around) (ps : List (Addr × Obj)) (σw : L2.St) (fp : List Addr) (tn : Nat → Heap → Prop) (gn : Nat) (W : Nat → Nat → Hp → Prop) (d : Bool) (Qe : Bool → Hp → Prop) (a : Addr) (go : Obj) (n : Nat) (s : Shared) : Prop where
  obj : s.heap.get? a = some go
  lim : s.heap.NoLimit
  bare : AllBare s.gens
  gen : ∃ gs, s.gens[gn]? = some gs ∧ ∀ s'', s''.heap = s.heap → s''.os = s.os → AllBare s''.gens → gn + 1 ≤ s''.gens.size →
    gs.Goes (model G.prog G.w) A0 (fun n s₀ r s₁ => r = .ok .next ∧ GXP G ps σw d Qe n s₀ s₁) (GXY G ps σw fp tn gn W d Qe) n (.send .none) s''

section
variable {G : Cx} {A : Around} {a : Addr} {go : Obj} {gn : Nat} {σw : L2.St} {fp : List Addr} {tn : Nat → Heap → Prop} {W : Nat → Nat → Hp → Prop} {Qe : Bool → Hp → Prop} {R : Result → Shared → Prop}

/-- one step of the walk -/
theorem next_gx {d : Bool} {Q : Option Value → Shared → Prop} {E : Value → Shared → Prop} (hh : A.handled = none) (hroom : A.depth < recursionLimit) (hgo : GenObj go gn) (n : Nat) (s : Shared) (S : Sleeps G A.in1 [(a, go)] σw fp tn gn W d Qe a go n s)
    (hend : ∀ s2, (∃ H s', Inv G [(a, go)] σw H s' ∧ Qe (!d) H ∧ (∀ x o, s'.heap.get? x = some o → s2.heap.get? x = some o) ∧ s2.os = s'.os ∧ AllBare s2.gens) → Q none s2)
    (hstop : ∀ s2, (∃ H s', Inv G [(a, go)] σw H s' ∧ Qe d H ∧ (∀ x o, s'.heap.get? x = some o → s2.heap.get? x = some o) ∧ s2.os = s'.os ∧ AllBare s2.gens) → Q (some (.bool d)) s2)
    (hgo' : ∀ s2 m c, n = m + 1 → c ≠ d → Sleeps G A.in1 [(a, go)] σw fp tn gn W d Qe a go m s2 → Q (some (.bool c)) s2) :
    wpAny (model G.prog G.w) A (pyNext (.ref a)) Q E s := by
  obtain ⟨nm, qn, g1, g2, g3⟩ := hgo
  obtain ⟨gs, hgs, hk⟩ := S.gen
  have hlt : gn < s.gens.size := by
    rcases Nat.lt_or_ge gn s.gens.size with h' | h'
    · exact h'
    · rw [Array.getElem?_eq_none h'] at hgs; cases hgs
  refine wpAny_pyNext_genexpQ (g := gn) (n := n) (gs := gs) (P := GXP G [(a, go)] σw d Qe) (Y := GXY G [(a, go)] σw fp tn gn W d Qe) hh S.lim hroom ⟨go, nm, qn, S.obj, g1, g2, g3⟩ hgs (hk _ rfl rfl (bare_set S.bare rfl) (by rw [setGen_size]; exact hlt)) (fun v s₁ gs' hb hv => ?_) (fun s₁ hp h' hk' => ?_)
  · obtain ⟨c, H, rfl, I, z, hd, hc⟩ := hv
    have hself : (s₁.setGen gn gs').gens[gn]? = some gs' := setGen_self (Array.getElem?_eq_getElem (show gn < s₁.gens.size from z))
    by_cases e : c = d
    · subst e
      exact hstop _ ⟨H, s₁, I, hd rfl, fun _ _ q => q, rfl, bare_set I.bare hb⟩
    · cases n with
      | zero => exact (hc e s₁ rfl rfl I.bare z).elim
      | succ m =>
        refine hgo' _ m c rfl e ⟨(I.pin (a, go) (List.mem_append_right _ (List.mem_singleton.mpr rfl))).1, I.nolimit, bare_set I.bare hb, gs', hself, fun s'' e1 e2 e3 e4 => hc e s'' e1 e2 e3 e4⟩
  · obtain ⟨H, I, q⟩ := hp
    exact hend _ ⟨H, s₁, I, q, hk', rfl, bare_set I.bare rfl⟩

theorem any_loop_gx (hh : A.handled = none) (hroom : A.depth < recursionLimit) (hgo : GenObj go gn)
    (hR : ∀ b s2, (∃ H s', Inv G [(a, go)] σw H s' ∧ Qe b H ∧ (∀ x o, s'.heap.get? x = some o → s2.heap.get? x = some o) ∧ s2.os = s'.os ∧ AllBare s2.gens) → R (.ok (.ret (.bool b))) s2) :
    ∀ (n : Nat) (s : Shared), Sleeps G A.in1.in1 [(a, go)] σw fp tn gn W true Qe a go n s → codeAny (model G.prog G.w) A (.builtin "any.loop" ⟨[.ref a], []⟩) R s := by
  intro n
  induction n with
  | zero =>
    intro s S
    refine codeAny_builtin F.entry_any_loop ?_
    rw [Around.under_plainId F.plain_any_loop _]
    show wpAny _ A.in1 (pyNext (.ref a) >>= _) _ _ s
    refine wpAny_bind (next_gx (A := A.in1) hh hroom hgo 0 s S (fun s2 h => wpAny_bind (wpAny_rule (wpAny_pure (hR false s2 h)))) (fun s2 h => ?_) (fun s2 m c e => by cases e))
    refine wpAny_bind (wpAny_holding (wpAny_truthy_bool ?_))
    refine wpAny_bind (wpAny_letGo ?_)
    simp only [if_true]
    exact wpAny_bind (wpAny_rule (wpAny_pure (hR true s2 h)))
  | succ k ih =>
    intro s S
    refine codeAny_builtin F.entry_any_loop ?_
    rw [Around.under_plainId F.plain_any_loop _]
    show wpAny _ A.in1 (pyNext (.ref a) >>= _) _ _ s
    refine wpAny_bind (next_gx (A := A.in1) hh hroom hgo (k + 1) s S (fun s2 h => wpAny_bind (wpAny_rule (wpAny_pure (hR false s2 h)))) (fun s2 h => ?_) (fun s2 m c e hc S2 => ?_))
    · refine wpAny_bind (wpAny_holding (wpAny_truthy_bool ?_))
      refine wpAny_bind (wpAny_letGo ?_)
      simp only [if_true]
      exact wpAny_bind (wpAny_rule (wpAny_pure (hR true s2 h)))
    · have hcf : c = false := by cases c; rfl; exact absurd rfl hc
      subst hcf
      have : m = k := by omega
      subst this
      refine wpAny_bind (wpAny_holding (wpAny_truthy_bool ?_))
      refine wpAny_bind (wpAny_letGo ?_)
      simp only [Bool.false_eq_true, if_false]
      exact wpAny_pure ⟨plainId_quiet F.plain_any_loop _, ih s2 S2⟩

theorem all_loop_gx (hh : A.handled = none) (hroom : A.depth < recursionLimit) (hgo : GenObj go gn)
    (hR : ∀ b s2, (∃ H s', Inv G [(a, go)] σw H s' ∧ Qe b H ∧ (∀ x o, s'.heap.get? x = some o → s2.heap.get? x = some o) ∧ s2.os = s'.os ∧ AllBare s2.gens) → R (.ok (.ret (.bool b))) s2) :
    ∀ (n : Nat) (s : Shared), Sleeps G A.in1.in1 [(a, go)] σw fp tn gn W false Qe a go n s → codeAny (model G.prog G.w) A (.builtin "all.loop" ⟨[.ref a], []⟩) R s := by
  intro n
  induction n with
  | zero =>
    intro s S
    refine codeAny_builtin F.entry_all_loop ?_
    rw [Around.under_plainId F.plain_all_loop _]
    show wpAny _ A.in1 (pyNext (.ref a) >>= _) _ _ s
    refine wpAny_bind (next_gx (A := A.in1) hh hroom hgo 0 s S (fun s2 h => wpAny_bind (wpAny_rule (wpAny_pure (hR true s2 h)))) (fun s2 h => ?_) (fun s2 m c e => by cases e))
    refine wpAny_bind (wpAny_holding (wpAny_truthy_bool ?_))
    refine wpAny_bind (wpAny_letGo ?_)
    simp only [Bool.false_eq_true, if_false]
    exact wpAny_bind (wpAny_rule (wpAny_pure (hR false s2 h)))
  | succ k ih =>
    intro s S
    refine codeAny_builtin F.entry_all_loop ?_
    rw [Around.under_plainId F.plain_all_loop _]
    show wpAny _ A.in1 (pyNext (.ref a) >>= _) _ _ s
    refine wpAny_bind (next_gx (A := A.in1) hh hroom hgo (k + 1) s S (fun s2 h => wpAny_bind (wpAny_rule (wpAny_pure (hR true s2 h)))) (fun s2 h => ?_) (fun s2 m c e hc S2 => ?_))
    · refine wpAny_bind (wpAny_holding (wpAny_truthy_bool ?_))
      refine wpAny_bind (wpAny_letGo ?_)
      simp only [Bool.false_eq_true, if_false]
      exact wpAny_bind (wpAny_rule (wpAny_pure (hR false s2 h)))
    · have hcf : c = true := by cases c; exact absurd rfl hc; rfl
      subst hcf
      have : m = k := by omega
      subst this
      refine wpAny_bind (wpAny_holding (wpAny_truthy_bool ?_))
      refine wpAny_bind (wpAny_letGo ?_)
      simp only [if_true]
      exact wpAny_pure ⟨plainId_quiet F.plain_all_loop _, ih s2 S2⟩

theorem call_any_gx {n : Nat} {s : Shared} {Q : Value → Shared → Prop} {E : Value → Shared → Prop} (hh : A.handled = none) (hroom : A.depth < recursionLimit) (hgo : GenObj go gn) (S : Sleeps G A.in1.in1 [(a, go)] σw fp tn gn W true Qe a go n s)
    (hQ : ∀ b s2, (∃ H s', Inv G [(a, go)] σw H s' ∧ Qe b H ∧ (∀ x o, s'.heap.get? x = some o → s2.heap.get? x = some o) ∧ s2.os = s'.os ∧ AllBare s2.gens) → Q (.bool b) s2) :
    wpAny (model G.prog G.w) A (call (.builtin "any") [.ref a]) Q E s := by
  refine call_function_tree F.kind_any F.plain_any F.entry_any (F.args_any1 _) ?_
  unfold Builtin.«any»
  refine wpAny_bind (m := oneArg "any" _) (wpAny_pure ?_)
  have hg : s.heap.IsGen a gn := let ⟨nm, qn, g1, g2, g3⟩ := hgo; ⟨go, nm, qn, S.obj, g1, g2, g3⟩
  refine wpAny_bind (wpAny_pyIter_gen hg ?_)
  exact wpAny_pure ⟨plainId_quiet F.plain_any_loop _, any_loop_gx hh hroom hgo (fun b s2 h => hQ b s2 h) n s S⟩
theorem call_all_gx {n : Nat} {s : Shared} {Q : Value → Shared → Prop} {E : Value → Shared → Prop} (hh : A.handled = none) (hroom : A.depth < recursionLimit) (hgo : GenObj go gn) (S : Sleeps G A.in1.in1 [(a, go)] σw fp tn gn W false Qe a go n s)
    (hQ : ∀ b s2, (∃ H s', Inv G [(a, go)] σw H s' ∧ Qe b H ∧ (∀ x o, s'.heap.get? x = some o → s2.heap.get? x = some o) ∧ s2.os = s'.os ∧ AllBare s2.gens) → Q (.bool b) s2) :
    wpAny (model G.prog G.w) A (call (.builtin "all") [.ref a]) Q E s := by
  refine call_function_tree F.kind_all F.plain_all F.entry_all (F.args_all1 _) ?_
  unfold Builtin.«all»
  refine wpAny_bind (m := oneArg "all" _) (wpAny_pure ?_)
  have hg : s.heap.IsGen a gn := let ⟨nm, qn, g1, g2, g3⟩ := hgo; ⟨go, nm, qn, S.obj, g1, g2, g3⟩
  refine wpAny_bind (wpAny_pyIter_gen hg ?_)
  exact wpAny_pure ⟨plainId_quiet F.plain_all_loop _, all_loop_gx hh hroom hgo (fun b s2 h => hQ b s2 h) n s S⟩
end
end GX

/-! GX3: any(..), all(..) of a generator expression over anything that PI serves, the element any expression of truth value: as values. -/
namespace GX
open PySem PySem.Spec PyProof.Rows L2 GenW GxR
open Sem (wp)

/-- the generator expression's scope -/
structure GxS (N : List Str) (sc scope : Scope) (own : List (Str × Nat)) : Prop where
  blk : BlkOk N sc scope own
  co : scope.isCoroutine = false
  cell : ∀ y ∈ scope.names, y.2 ≠ .cell
  dot : scope.names.lookup (".0" : Str) = some NameKind.local

/-- any (d true) | all (d false) of (elt for tg in iter if ..); behind it the def's table may have grown -/
def tGx (P : Addr) (d : Bool) (wi : TI) (g : TG) (tt : TT) (te : TE) (vs : List Nat) : TE := fun σ H Q => wi σ H fun J H1 => TabG H1 P ∧
  ∃ W : Nat → Nat → Hp → Prop, (∀ H2, Tabbed P H1 H2 → ∃ m, W 0 m H2) ∧ GXT J g tt te σ vs d W fun b H' => Q (.bl b) H'

section
variable {X : Cx} {pins : List (Addr × Obj)} {σ : L2.St} {H : Hp} {s : Shared}

/-- what the consumer finds: the generator sleeps; behind it, back in the def's context -/
def MadeGx (X : Cx) (pins : List (Addr × Obj)) (σ : L2.St) (d : Bool) (Q : VK) (u : Value) (s5 : Shared) : Prop :=
  ∃ (G : Cx) (a : Addr) (go : Obj) (gn : Nat) (σw : L2.St) (fp : List Addr) (tn : Nat → Heap → Prop) (W : Nat → Nat → Hp → Prop) (Qe : Bool → Hp → Prop) (n : Nat), u = .ref a ∧ G.prog = X.prog ∧ G.w = X.w ∧ GenObj go gn ∧ Sleeps G X.A.in1.in1 [(a, go)] σw fp tn gn W d Qe a go n s5 ∧
    ∀ b s2, (∃ H s', Inv G [(a, go)] σw H s' ∧ Qe b H ∧ (∀ x o, s'.heap.get? x = some o → s2.heap.get? x = some o) ∧ s2.os = s'.os ∧ AllBare s2.gens) → ∃ H, Inv X pins σ H s2 ∧ Q (.bl b) H

theorem gx_make {c P : Addr} {elt tg iter : Expr} {ifs : List Expr} {gpos : Pos} {scope : Scope} {own : List (Str × Nat)} {d : Bool} {wi : TI} {g : TG} {tt : TT} {te : TE} {k : Nat} {Q : VK} {Q' : Value → Shared → Prop}
    (hr : Room (k + 2) X.A) (hc : X.calm = true) (hN : X.N.Nodup) (TB : TabB X.base X.mg c P) (hcode : X.env.code = .ref c) (S : GxS X.N X.env.scope scope own) (hi : PI X tg iter wi)
    (hg : ∀ (A0 : Around) (s : Shared) (H : Hp) (C : Addr) (code : Value) (fp : List Addr), PG (gx X A0 s H (gEnv X scope C code) fp) tg g)
    (ht : ∀ (A0 : Around) (s : Shared) (H : Hp) (C : Addr) (code : Value) (fp : List Addr), Room k (A0.deeper (gEnv X scope C code)) → PTs (gx X A0 s H (gEnv X scope C code) fp) ifs tt)
    (he : ∀ (A0 : Around) (s : Shared) (H : Hp) (C : Addr) (code : Value) (fp : List Addr), Room k (A0.deeper (gEnv X scope C code)) → PE (gx X A0 s H (gEnv X scope C code) fp) elt te)
    (hs : ∀ v, genFold iter X.env v = pure v) (I : Inv X pins σ H s) (h : tGx P d wi g tt te (own.map (·.2)) σ H Q)
    (hQ : ∀ u s5, MadeGx X pins σ d Q u s5 → Q' u s5) :
    wpAny (model X.prog X.w) X.A (eval (.GeneratorExp elt [⟨tg, iter, ifs, 0⟩] scope gpos) X.env) Q' X.xe s := by
  have hfree : ∀ y ∈ scope.names, y.2 = .free → ∃ c, X.env.cells.lookup y.1 = some c := fun y hy e => by
    rcases S.blk.free y hy e with k | k
    · exact I.ok.has _ (.inl k)
    · exact I.ok.has _ (.inr k)
  refine wpAny_GeneratorExp_make S.co (closure_ok hfree) S.cell S.dot S.blk.kind (by have := hr.dp; omega) ?_ hs
  refine thn (hi.run pins s σ H _ I h) fun xv s1 hx => thn hx fun itv s2 h2 => ?_
  obtain ⟨it, fp, tn, J, H2, e, I2, T, st2, f2, ⟨ps, hP, ht0⟩, W, w0, turn⟩ := h2
  subst e
  have hPs : s2.heap.get? P = some { cls := .none, data := .fields ps } := I2.hok P _ hP
  have hPlt : P < s2.heap.objs.size := Heap.lt_size hPs
  have cd : PySem.W.CodeHd s2.heap c P := TB.code.keeps fun b u e => I2.bk b u e
  have cont : ∀ (code : Value) (h3 : Heap) (tk : Nat) (ps' : Array Value), Heap.ExtBut P s2.heap h3 → s2.heap.objs.size ≤ h3.objs.size → h3.get? P = some { cls := .none, data := .fields ps' } → (∃ more, ps' = ps ++ more) → TriplesOk ps'.toList →
      wpAny (model X.prog X.w) X.A (builtinsFor X.env.globals X.env.builtins) (fun bi s₄ =>
        ∀ h', h'.Ns s₄.heap.objs.size (fun y => if y = ".0" then some (.ref it) else none) → Heap.SameBut s₄.heap.objs.size (s₄.heap.push { cls := .type "frame", data := .dict #[] }) h' →
          Q' (.ref h'.objs.size) { s₄ with
            gens := s₄.gens.push (.fresh (.compStart (.GeneratorExp elt [⟨tg, iter, ifs, 0⟩] scope gpos) 0 (.ref it) .none (genEnv scope (cloFrom X.env.cells scope.names []) s₄.heap.objs.size code bi X.env))),
            toks := s₄.toks + 1 + 1 + 1,
            heap := h'.push { cls := .type "generator", data := .fields #[.int s₄.gens.size 0, .str "<genexpr>" (s₄.toks + 1), .str (X.env.qual ++ "<genexpr>") (s₄.toks + 1 + 1)] } }) X.xe { s2 with heap := h3, toks := tk } := by
    intro code h3 tk ps' hx hsz hP3 ⟨more, hmore⟩ ht3
    obtain ⟨bm, ob, e1, e2, e3, e4, e5, e6, e7, e8⟩ := TB.bm
    have keep3 : ∀ b u, b ≠ P → s2.heap.get? b = some u → h3.get? b = some u := fun b u hb e => hx b u hb e
    refine wpAny_builtinsFor (m := X.mg) (by rw [I2.ok.glob]; exact (I2.mod.glob.keeps I2.bk).extBut hx TB.gP) e1 e2 (keep3 _ _ e4 (I2.bk _ _ e5)) e6 e7 e8 ?_
    intro h' hn' hs'
    generalize hs4 : ({ s2 with heap := h3, toks := tk } : Shared) = s4 at hn' hs' ⊢
    have h4 : s4.heap = h3 := by rw [← hs4]
    have g4 : s4.gens = s2.gens := by rw [← hs4]
    subst hmore
    have I4 : Inv X pins σ (upd H2 P (.tbl (ps ++ more))) s4 := by
      rw [← hs4]
      exact inv_tab (g' := s2.gens) (d' := s2.drawn) I2 hP keep3 hP3 I2.bare
    have nP : ∀ b ∈ fp, b ≠ P := fun b hb z => by
      have := (f2 b hb).1
      rw [z, hP] at this; cases this
    have f4 : ∀ b ∈ fp, FpOk X pins (upd H2 P (.tbl (ps ++ more))) b ∧ b < s4.heap.objs.size := fun b hb => by
      obtain ⟨o, e, _⟩ := T.obj _ _ st2 b hb
      refine ⟨⟨?_, (f2 b hb).2⟩, ?_⟩
      · rw [upd_ne (nP b hb)]; exact (f2 b hb).1
      · rw [h4]; exact Heap.lt_size (keep3 b o (nP b hb) e)
    have tab : Tabbed P H2 (upd H2 P (.tbl (ps ++ more))) := ⟨⟨ps ++ more, upd_same, ht3⟩, fun b hb => upd_ne hb⟩
    obtain ⟨m0, w0⟩ := w0 _ tab
    generalize hH4 : upd H2 P (.tbl (ps ++ more)) = H4 at I4 f4 w0
    have st4 : tn 0 s4.heap := T.keep _ _ _ st2 fun b hb o e => by rw [h4]; exact keep3 b o (nP b hb) e
    have hsz' : h'.objs.size = s4.heap.objs.size + 1 := by rw [hs'.1, Heap.size_push]
    have keep' : ∀ b o, s4.heap.get? b = some o → h'.get? b = some o := fun b o e => hs'.extBut b o (Nat.ne_of_lt (Heap.lt_size e)) (Heap.get?_push_of_some _ e)
    generalize hgo : ({ cls := .type "generator", data := .fields #[.int s4.gens.size 0, .str "<genexpr>" (s4.toks + 1), .str (X.env.qual ++ "<genexpr>") (s4.toks + 1 + 1)] } : Obj) = go
    have GO : GenObj go s4.gens.size := by rw [← hgo]; exact ⟨_, _, rfl, rfl, rfl⟩
    have hpush : ∀ h : Heap, (h.push go).get? h.objs.size = some go := fun h => by rw [← hgo]; exact Heap.get?_push_size _ rfl
    have keep5 : ∀ b o, s4.heap.get? b = some o → (h'.push go).get? b = some o := fun b o e => Heap.get?_push_of_some _ (keep' b o e)
    have ns5 : (h'.push go).Ns s4.heap.objs.size (fun y => if y = ".0" then some (.ref it) else none) := hn'.push _
    generalize hcd : (GenState.fresh (.compStart (.GeneratorExp elt [⟨tg, iter, ifs, 0⟩] scope gpos) 0 (.ref it) .none (genEnv scope (cloFrom X.env.cells scope.names []) s4.heap.objs.size code builtinsNs X.env))) = fr
    have bare5 : AllBare (s4.gens.push fr) := AllBare.push (by rw [g4]; exact I2.bare) (by rw [← hcd]; rfl)
    have hfr : X.A.in1.in1.frames = some X.stack := I.ok.frames
    have hhd : X.A.in1.in1.handled = none := hr.hd
    have rm : Room k (X.A.in1.in1.deeper (gEnv X scope s4.heap.objs.size code)) :=
      ⟨hr.hd, by have := hr.dp; show X.A.depth + 1 + 3 * k + 5 < _; omega, by have := hr.un; show X.A.units + 1 + 1 + 3 + 16 * k + 200 < _; omega⟩
    have I5 := gx_start (t' := s4.toks + 1 + 1 + 1) (code := code) I4 S.blk hN S.cell f4 hfr hhd ns5 keep5 bare5
    have hpg := hg X.A.in1.in1 s4 H4 s4.heap.objs.size code fp
    have hpt := ht X.A.in1.in1 s4 H4 s4.heap.objs.size code fp rm
    have hpe := he X.A.in1.in1 s4 H4 s4.heap.objs.size code fp rm
    have hcoE : (gEnv X scope s4.heap.objs.size code).scope.isCoroutine = false := S.co
    have hcd' : fr = GenState.fresh (.compStart (.GeneratorExp elt [⟨tg, iter, ifs, 0⟩] scope gpos) 0 (.ref it) .none (gEnv X scope s4.heap.objs.size code)) := hcd.symm
    have eL : (gEnv X scope s4.heap.objs.size code).locals = s4.heap.objs.size := rfl
    have eC : (gEnv X scope s4.heap.objs.size code).cells = cloFrom X.env.cells scope.names [] := rfl
    generalize gEnv X scope s4.heap.objs.size code = ce at I5 hpg hpt hpe hcoE hcd' eL eC
    generalize hs5 : ({ s4 with gens := s4.gens.push fr, toks := s4.toks + 1 + 1 + 1, heap := h'.push go } : Shared) = s5
    have h5 : s5.heap = h'.push go := by rw [← hs5]
    have I5 : Inv (gx X X.A.in1.in1 s4 H4 ce fp) [] (wipe σ (own.map (·.2))) H4 s5 := by rw [← hs5]; exact I5
    have hgen5 : s5.gens = s4.gens.push fr := by rw [← hs5]
    have hna : H4 h'.objs.size = none := I4.hok.fresh (by rw [hsz']; exact Nat.le_succ _)
    have I6 : Inv (gx X X.A.in1.in1 s4 H4 ce fp) [(h'.objs.size, go)] (wipe σ (own.map (·.2))) H4 s5 := I5.pins_of fun p hp => by
      rw [List.mem_singleton.mp hp]
      refine ⟨by rw [h5]; exact hpush h', hna, ?_, ?_, fun v q => by rw [← hgo] at q; cases q⟩
      · show h'.objs.size ≠ ce.locals
        rw [eL, hsz']; exact Nat.succ_ne_self _
      · intro z
        rcases List.mem_cons.mp (I4.stkSub _ z) with z | z
        · have := I4.lt
          rw [← z, hsz'] at this
          exact absurd this (Nat.not_lt.mpr (Nat.le_succ _))
        · exact I4.nofs (by rw [hsz']; exact Nat.le_succ _) z
    have haf : ∀ b ∈ fp, h'.objs.size ≠ b := fun b hb z => by
      have := (f4 b hb).2
      rw [← z, hsz'] at this
      exact absurd this (Nat.not_lt.mpr (Nat.le_succ _))
    refine hQ _ _ ⟨gx X X.A.in1.in1 s4 H4 ce fp, h'.objs.size, go, s4.gens.size, wipe σ (own.map (·.2)), fp, tn, W, fun b H' => Q (.bl b) H', m0 + 1, rfl, rfl, rfl, GO, ⟨by rw [h5]; exact hpush h', I6.nolimit, by rw [hgen5]; exact bare5, fr, by rw [hgen5]; exact Array.getElem?_push_size .., fun s'' q1 q2 q3 q4 => ?_⟩, ?_⟩
    · rw [hcd']
      refine ⟨rfl, gx_startSeg hcoE T hpg hpt hpe haf turn m0 (m0 + 1) s'' s'' H4 (Nat.lt_succ_self _) ⟨inv_heap I6 q1 q2 q3, q4, ?_, fun b hb => (f4 b hb).1.1, w0⟩⟩
      rw [q1, h5]
      exact T.keep _ _ _ st4 fun b hb o e => keep5 b o e
    · rintro b s6 ⟨H6, s', J6, q6, kp, ho, hb⟩
      have J7 : Inv X pins σ H6 s' := I4.call' (ch := fp) J6.os J6.base J6.hok J6.bare fun b hb => ⟨(f4 b hb).1.2.2.2.1, (f4 b hb).1.2.1, (f4 b hb).1.2.2.2.2.1, (f4 b hb).1.2.2.2.2.2⟩
      exact ⟨H6, J7.call' (ch := []) ho (Un.kept kp) (J7.hok.kept kp) hb (fun b z => by simp at z), q6⟩
  refine ⟨I2.nolimit, ?_⟩
  cases hf : codeAmong gpos ps.toList with
  | none =>
    refine wpAny_genexprCodeX hcode (cd.code hPs ht0) (cd.tab hPs) hf fun c' h' tk hx hge hlt hco' _ htab' _ => ?_
    obtain ⟨o1, vs, f1, tf, fl, tg, inF, tx, tt, op, _, _, _, _, _, _, _, _, _, htr, _⟩ := hco'
    exact cont _ h' tk _ hx (Nat.le_trans hge (Nat.le_of_lt hlt)) htab'.2 ⟨_, rfl⟩ htr
  | some cv =>
    refine wpAny_genexprCode_hit hcode (cd.code hPs ht0) hf ?_
    exact cont cv s2.heap s2.toks ps (Heap.ExtBut.refl _ _) (Nat.le_refl _) hPs ⟨#[], by simp⟩ ht0

theorem pe_anyGx {c P : Addr} {elt tg iter : Expr} {ifs : List Expr} {p pos gpos : Pos} {scope : Scope} {own : List (Str × Nat)} {wi : TI} {g : TG} {tt : TT} {te : TE} {k : Nat}
    (hr : Room (k + 2) X.A) (hc : X.calm = true) (hN : X.N.Nodup) (hgl : Gl X "any") (hm : X.mg "any" = none) (TB : TabB X.base X.mg c P) (hcode : X.env.code = .ref c) (S : GxS X.N X.env.scope scope own) (hi : PI X tg iter wi)
    (hg : ∀ (A0 : Around) (s : Shared) (H : Hp) (C : Addr) (code : Value) (fp : List Addr), PG (gx X A0 s H (gEnv X scope C code) fp) tg g)
    (ht : ∀ (A0 : Around) (s : Shared) (H : Hp) (C : Addr) (code : Value) (fp : List Addr), Room k (A0.deeper (gEnv X scope C code)) → PTs (gx X A0 s H (gEnv X scope C code) fp) ifs tt)
    (he : ∀ (A0 : Around) (s : Shared) (H : Hp) (C : Addr) (code : Value) (fp : List Addr), Room k (A0.deeper (gEnv X scope C code)) → PE (gx X A0 s H (gEnv X scope C code) fp) elt te)
    (hs : ∀ v, genFold iter X.env v = pure v := by intro _; rfl)
    (hst : starEach [.GeneratorExp elt [⟨tg, iter, ifs, 0⟩] scope gpos] X.env = (false, eval (.GeneratorExp elt [⟨tg, iter, ifs, 0⟩] scope gpos) X.env) :: starEach [] X.env := by rfl) :
    PE X (.Call (.Name "any" p) [.GeneratorExp elt [⟨tg, iter, ifs, 0⟩] scope gpos] [] pos) (tGx P true wi g tt te (own.map (·.2))) := by
  refine ⟨fun pins s σ H Q I h => ?_⟩
  refine wpAny_Call_Name_kw (ld_blt I hgl hm boot_any ?_)
  refine PyProof.Rows.callWith_builtin1 ?_ hst (by rfl)
  rw [hst]
  show wpAny _ _ (spliced ((false, eval (.GeneratorExp elt [⟨tg, iter, ifs, 0⟩] scope gpos) X.env) :: backTo pos (starEach [] X.env))) _ _ s
  refine Calls.spliced_cons (gx_make hr hc hN TB hcode S hi hg ht he hs I h fun u s5 hM => ?_)
  obtain ⟨G, a, go, gn, σw, fp, tn, W, Qe, n, rfl, eP, eW, GO, SL, back⟩ := hM
  refine Calls.spliced_nil ?_
  rw [← eP, ← eW]
  refine call_any_gx hr.hd hr.depth GO SL fun b s2 hx => ?_
  obtain ⟨H', J, q⟩ := back b s2 hx
  exact ⟨.bl b, H', J, rfl, q⟩
theorem pe_allGx {c P : Addr} {elt tg iter : Expr} {ifs : List Expr} {p pos gpos : Pos} {scope : Scope} {own : List (Str × Nat)} {wi : TI} {g : TG} {tt : TT} {te : TE} {k : Nat}
    (hr : Room (k + 2) X.A) (hc : X.calm = true) (hN : X.N.Nodup) (hgl : Gl X "all") (hm : X.mg "all" = none) (hb : bootBuiltins "all" = some (.builtin "all")) (TB : TabB X.base X.mg c P) (hcode : X.env.code = .ref c) (S : GxS X.N X.env.scope scope own) (hi : PI X tg iter wi)
    (hg : ∀ (A0 : Around) (s : Shared) (H : Hp) (C : Addr) (code : Value) (fp : List Addr), PG (gx X A0 s H (gEnv X scope C code) fp) tg g)
    (ht : ∀ (A0 : Around) (s : Shared) (H : Hp) (C : Addr) (code : Value) (fp : List Addr), Room k (A0.deeper (gEnv X scope C code)) → PTs (gx X A0 s H (gEnv X scope C code) fp) ifs tt)
    (he : ∀ (A0 : Around) (s : Shared) (H : Hp) (C : Addr) (code : Value) (fp : List Addr), Room k (A0.deeper (gEnv X scope C code)) → PE (gx X A0 s H (gEnv X scope C code) fp) elt te)
    (hs : ∀ v, genFold iter X.env v = pure v := by intro _; rfl)
    (hst : starEach [.GeneratorExp elt [⟨tg, iter, ifs, 0⟩] scope gpos] X.env = (false, eval (.GeneratorExp elt [⟨tg, iter, ifs, 0⟩] scope gpos) X.env) :: starEach [] X.env := by rfl) :
    PE X (.Call (.Name "all" p) [.GeneratorExp elt [⟨tg, iter, ifs, 0⟩] scope gpos] [] pos) (tGx P false wi g tt te (own.map (·.2))) := by
  refine ⟨fun pins s σ H Q I h => ?_⟩
  refine wpAny_Call_Name_kw (ld_blt I hgl hm hb ?_)
  refine PyProof.Rows.callWith_builtin1 ?_ hst (by rfl)
  rw [hst]
  show wpAny _ _ (spliced ((false, eval (.GeneratorExp elt [⟨tg, iter, ifs, 0⟩] scope gpos) X.env) :: backTo pos (starEach [] X.env))) _ _ s
  refine Calls.spliced_cons (gx_make hr hc hN TB hcode S hi hg ht he hs I h fun u s5 hM => ?_)
  obtain ⟨G, a, go, gn, σw, fp, tn, W, Qe, n, rfl, eP, eW, GO, SL, back⟩ := hM
  refine Calls.spliced_nil ?_
  rw [← eP, ← eW]
  refine call_all_gx hr.hd hr.depth GO SL fun b s2 hx => ?_
  obtain ⟨H', J, q⟩ := back b s2 hx
  exact ⟨.bl b, H', J, rfl, q⟩
end
end GX

/-! GX4: a def whose code object is known (its table may be asked for); the reading of any, all of a generator expression by an invariant. -/
namespace GX
open PySem PySem.Spec PyProof.Rows L2 GenW GxR NdefX
open Sem (wp)

/-- Fun with its code object: c -/
structure FunT (K : PySem.W.Frag) (x qual : Str) (st : Stmt) (f : Addr) (fd : FuncData) (c : Addr) : Prop where
  ex : ∃ (oc : Value) (od : Option Addr) (kV doc pm : Value) (an : Option Addr) (ct : Value) (osl : Array (Option Value)),
    fd = PySem.W.fnOf x qual (defArgs st) (defBody st) (defScope st) .none kV doc pm an (.ref c) ct ∧ K.lookup f = some ⟨oc, od, .func fd, osl⟩ ∧ PySem.W.codeIn K (.ref c) qual = true
  kp : PySem.W.keepIn K (.ref f) = true
section
variable {P : Program} {w : World} {K : PySem.W.Frag} {mg : Str → Option Value} {base : Heap}
theorem FunT.toFun {x qual : Str} {st : Stmt} {f : Addr} {fd : FuncData} {c : Addr} (F : FunT K x qual st f fd c) : Fun K x qual st f fd := by
  obtain ⟨oc, od, kV, doc, pm, an, ct, osl, e, lk, hcd⟩ := F.ex
  exact ⟨⟨oc, od, kV, doc, pm, an, _, ct, osl, e, lk, hcd⟩, F.kp⟩
theorem FunT.ok {x qual : Str} {st : Stmt} {f : Addr} {fd : FuncData} {c : Addr} {N ps : List Str} {k : Nat} {sp : Sp} (F : FunT K x qual st f fd c) (S : FnScope N ps (defScope st)) (len : ∀ vs H Q E, sp vs H Q E → vs.length = ps.length)
    (hbody : ∀ (A : Around) (outer : List Env) (s : Shared) (H : Hp) (vs : List V) (Q : VK) (E : XK), Room k (A.deeper (envOfC qual (defScope st) s.heap.objs.size f (.ref c))) → sp vs H Q E →
      ∃ t, PSs (cxOf CX0 P w K mg base N qual (defScope st) f (.ref c) A outer s H E).nox (defBody st) t ∧ t { nx := fun _ H' => Q .non H', rt := Q } (start N vs) H) : FnOk P w K mg base CX0 (k + 1) f fd ps sp := by
  obtain ⟨oc, od, kV, doc, pm, an, ct, osl, rfl, lk, hcd⟩ := F.ex
  refine fn_of lk hcd S len fun A outer s H vs Q E hr hsp => ?_
  obtain ⟨t, h, q⟩ := hbody A outer s H vs Q E hr hsp
  exact ⟨t, h.nox, q⟩
/-- the same for a def that may raise -/
theorem FunT.okX {x qual : Str} {st : Stmt} {f : Addr} {fd : FuncData} {c : Addr} {N ps : List Str} {k : Nat} {sp : Sp} (F : FunT K x qual st f fd c) (S : FnScope N ps (defScope st)) (len : ∀ vs H Q E, sp vs H Q E → vs.length = ps.length)
    (hbody : ∀ (A : Around) (outer : List Env) (s : Shared) (H : Hp) (vs : List V) (Q : VK) (E : XK), Room k (A.deeper (envOfC qual (defScope st) s.heap.objs.size f (.ref c))) → sp vs H Q E →
      ∃ t, PSs (cxOf (L2.CX P w) P w K mg base N qual (defScope st) f (.ref c) A outer s H E) (defBody st) t ∧ t { nx := fun _ H' => Q .non H', rt := Q } (start N vs) H) : FnOk P w K mg base (L2.CX P w) (k + 1) f fd ps sp := by
  obtain ⟨oc, od, kV, doc, pm, an, ct, osl, rfl, lk, hcd⟩ := F.ex
  exact fn_of lk hcd S len fun A outer s H vs Q E hr hsp => hbody A outer s H vs Q E hr hsp
end

theorem gxt_by {J : It} {g : TG} {tt : TT} {te : TE} {σ : L2.St} {vs : List Nat} {d : Bool} {Qe : Bool → Hp → Prop} (n : Nat) (Pv : Nat → Hp → Prop) (hgo : ∀ i H, i < n → Pv i H → J.go i H) (hstop : ∀ H, Pv n H → J.stop n H) (hend : ∀ H, Pv n H → Qe (!d) H)
    (step : ∀ i x H H', i < n → Pv i H → J.yld i H x H' → g x (wipe σ vs) H' fun σ2 H2 => wipe σ2 vs = wipe σ vs ∧ tt σ2 H2 fun b H3 =>
      if b = true then te σ2 H3 fun y H4 => ∃ c, y = .bl c ∧ (c = d → Qe d H4) ∧ (c ≠ d → Pv (i + 1) H4) else Pv (i + 1) H3) : GXT J g tt te σ vs d (fun i m H => m = n - i ∧ i ≤ n ∧ Pv i H) Qe := by
  rintro i m H ⟨rfl, hi, p⟩
  by_cases hlt : i < n
  · refine .inr ⟨hgo i H hlt p, Pv (i + 1), fun H' p' => ⟨n - (i + 1), by omega, rfl, hlt, p'⟩, fun x H' y => step i x H H' hlt p y⟩
  · have e : i = n := by omega
    subst e
    exact .inl ⟨hstop H p, hend H p⟩
/-- the same without tests, the target a name (slot j) -/
theorem gxt_yes {J : It} {te : TE} {σ : L2.St} {vs : List Nat} {d : Bool} {Qe : Bool → Hp → Prop} {j : Nat} (n : Nat) (Pv : Nat → Hp → Prop) (hgo : ∀ i H, i < n → Pv i H → J.go i H) (hstop : ∀ H, Pv n H → J.stop n H) (hend : ∀ H, Pv n H → Qe (!d) H) (hw : ∀ v, wipe ((wipe σ vs).set j (some v)) vs = wipe σ vs)
    (step : ∀ i x H H', i < n → Pv i H → J.yld i H x H' → te ((wipe σ vs).set j (some x)) H' fun y H4 => ∃ c, y = .bl c ∧ (c = d → Qe d H4) ∧ (c ≠ d → Pv (i + 1) H4)) : GXT J (gName j) tYes te σ vs d (fun i m H => m = n - i ∧ i ≤ n ∧ Pv i H) Qe :=
  gxt_by n Pv hgo hstop hend fun i x H H' hi p y => ⟨hw x, by
    unfold tYes
    simp only [if_true]
    exact step i x H H' hi p y⟩
theorem gxS {N : List Str} {sc scope : Scope} {own : List (Str × Nat)} (h : blkC N sc scope own = true) (co : scope.isCoroutine = false) (cell : (scope.names.all fun y => decide (y.2 ≠ .cell)) = true) (dot : scope.names.lookup (".0" : Str) = some NameKind.local) : GxS N sc scope own :=
  ⟨blkOk_by h, co, fun y hy => by have := List.all_eq_true.mp cell y hy; simpa using this, dot⟩
end GX

/-! GX5: tuple += tuple. -/
namespace GX
open PySem PySem.Spec PyProof.Rows L2 HT
section
theorem noI_tuple_add : typeLookup (.type "tuple") (dunderI "add") = pure none := by rw [typeLookup_type, builtinLookup_eq_fast]; kernel_rfl
variable {prog : Program} {w : World} {A : Around} {E : Value → Shared → Prop} {s : Shared}
theorem iconcat_meets {T id : String} {B : Builtin} {a b : Value} {S : PySem.Spec} {Q : Value → Shared → Prop} (ha : s.TypeIs a T) (hb : s.TypeIs b T) (hno : typeLookup (.type T) (dunderI "add") = pure none)
    (hfill : fillsNumberSlot (.type T) "add" = pure false) (hseq : seqSlot? (.type T) "__add__" = pure (some (.builtin id))) (slot : Slot T "__add__" id)
    (entry : entryFor table id = some B) (args : argsOk id ⟨[a, b], []⟩) (g : Meets (B ⟨[a, b], []⟩) S) (h : S A (wants Q E) s) : wpAny (model prog w) A (inplaceOp .Add a b) Q E s :=
  wpAny_inplaceOp_concat ha hb hno hfill hseq (call_meets slot ha entry args g h)
theorem icat_tup {t b : Addr} {vs ws : List Value} {Q : Value → Shared → Prop} (ht : IsTup s.heap t vs.toArray) (hb : IsTup s.heap b ws.toArray)
    (h0 : vs = [] → Q (.ref b) s) (h1 : vs ≠ [] → ws = [] → Q (.ref t) s) (h2 : vs ≠ [] → ws ≠ [] → Q (.ref s.heap.objs.size) { s with heap := s.heap.push { cls := .type "tuple", data := .seq (vs ++ ws).toArray } })
    (hsz : vs.length + ws.length ≤ sizeLine) : wpAny (model prog w) A (inplaceOp .Add (.ref t) (.ref b)) Q E s := by
  obtain ⟨⟨cls, dd, data, sl⟩, ho, hc, n, hd⟩ := id ht
  obtain ⟨⟨cls2, dd2, data2, sl2⟩, ho2, hc2, n2, hd2⟩ := id hb
  simp only at hc hd hc2 hd2
  subst hc hd hc2 hd2
  have e : vs.toArray ++ ws.toArray = (vs ++ ws).toArray := by simp
  by_cases hv : vs = []
  · exact iconcat_meets ⟨_, ho, rfl⟩ ⟨_, ho2, rfl⟩ noI_tuple_add noFill_tuple_add seq_tuple_add PySem.F.slot_tuple_add PySem.F.entry_tuple_add (PySem.F.args_tuple_add_2 _ _)
      (tuple_addW0 t b vs.toArray ws.toArray n n2 dd dd2 sl sl2 (by simp [hv])) ⟨ho, ho2, h0 hv⟩
  by_cases hw : ws = []
  · exact iconcat_meets ⟨_, ho, rfl⟩ ⟨_, ho2, rfl⟩ noI_tuple_add noFill_tuple_add seq_tuple_add PySem.F.slot_tuple_add PySem.F.entry_tuple_add (PySem.F.args_tuple_add_2 _ _)
      (tuple_addW1 t b vs.toArray ws.toArray n n2 dd dd2 sl sl2 (by simpa using hv) (by simp [hw])) ⟨ho, ho2, h1 hv hw⟩
  · refine iconcat_meets ⟨_, ho, rfl⟩ ⟨_, ho2, rfl⟩ noI_tuple_add noFill_tuple_add seq_tuple_add PySem.F.slot_tuple_add PySem.F.entry_tuple_add (PySem.F.args_tuple_add_2 _ _)
      (tuple_addW2 t b vs.toArray ws.toArray n n2 dd dd2 sl sl2 (by simpa using hv) (by simpa using hw) (by rw [List.size_toArray, List.size_toArray]; exact hsz)) ⟨ho, ho2, ?_⟩
    rw [e]
    exact h2 hv hw
end
section
variable {X : Cx}
theorem in_catA : InOp X .Add (rCatA X.K) := by
  intro pins s σ H x y v u Q I rx ry h
  obtain ⟨a, b, xs, ys, rfl, rfl, ha, hb, hz, q0, q1, q2⟩ := h
  cases rx
  cases ry
  obtain ⟨its, r1, p1, _⟩ := I.tuple ha
  obtain ⟨its2, r2, p2, _⟩ := I.tuple hb
  refine icat_tup p1 p2 (fun z => ⟨.ref b, H, I, rfl, q0 (r1.nil_iff.mp z)⟩) (fun z z2 => ⟨.ref a, H, I, rfl, q1 (fun e => z (r1.nil_iff.mpr e)) (r2.nil_iff.mp z2)⟩) (fun z z2 => ?_) (by rw [← r1.length, ← r2.length]; exact hz)
  refine ⟨.ref s.heap.objs.size, _, I.laid (t' := s.toks) (o := .tup (xs ++ ys)) (fun b ob q => Heap.get?_push_of_some _ q) (Nat.le_refl _) ?_, rfl, q2 (fun e => z (r1.nil_iff.mpr e)) (fun e => z2 (r2.nil_iff.mpr e)) _ (I.hok.fresh (Nat.le_refl _))⟩
  exact ⟨by rw [List.length_append]; exact hz, _, r1.append r2, IsTup.new _ _⟩
end
end GX

/-! GN1: is_name, is_whole. -/
namespace GN
open PySem PySem.Spec PyProof.Rows L2 GenW GxR NdefX GX
def top (i : Nat) : Stmt := PySem.Challenge.pw_goalsmith_k31_sayings_told.main.body.getD i (.Pass ⟨0, 0, 0, 0⟩)
abbrev sIsName : Stmt := top 5
theorem scIsName : FnScope ["thing", "letter"] ["thing"] (defScope sIsName) := ⟨rfl, rfl, rfl, by decide +kernel, rfl, by decide +kernel, by decide +kernel⟩
theorem boot_isi : bootBuiltins "isinstance" = some (.builtin "isinstance") := by decide +kernel
theorem boot_strT : bootBuiltins "str" = some (.type "str") := by decide +kernel
theorem boot_all : bootBuiltins "all" = some (.builtin "all") := by decide +kernel
def letters : Str := "abcdefghijklmnopqrstuvwxyz"
def wordsV : List V := [.str "no", .str "not", .str "and", .str "or", .str "so", .str "all", .str "some"]
/-- what names are -/
def isNameB (a : Str) : Bool := decide (1 ≤ a.length) && decide (a.length ≤ 8) && !(inV (.str a) wordsV) && a.cps.toList.all fun c => decide (c ∈ letters.cps.toList)
structure TxtN (K : PySem.W.Frag) (mg : Str → Option Value) (W : Addr) : Prop where
  isi : mg "isinstance" = none
  str : mg "str" = none
  len : mg "len" = none
  all : mg "all" = none
  letters : ∃ t, mg "LETTERS" = some (.str letters t)
  words : mg "WORDS" = some (.ref W)
  wordsK : ∀ H : Hp, SqT K H W wordsV
  most : ∃ t, mg "MOST_LETTERS" = some (.int 8 t)
/-- is_name of a text -/
def spIsName (W T : Addr) : Sp := fun vs H Q _ => ∃ a : Str, vs = [.str a] ∧ a.length ≤ sizeLine ∧ TabG H T ∧ ∀ H', Tabbed T H H' ∨ H' = H → Q (.bl (isNameB a)) H'
section
variable {P : Program} {w : World} {K : PySem.W.Frag} {mg : Str → Option Value} {base : Heap} {f c T W : Addr} {fd : FuncData}
theorem ok_isName (F : FunT K "is_name" "is_name" sIsName f fd c) (X : TxtN K mg W) (TB : TabB base mg c T) : FnOk P w K mg base CX0 3 f fd ["thing"] (spIsName W T) := by
  refine F.ok scIsName (fun vs H Q E h => ?_) (fun A outer s H vs Q E hr h => ?_)
  · obtain ⟨a, rfl, _⟩ := h
    rfl
  obtain ⟨a, rfl, hl, hT, k⟩ := h
  obtain ⟨tl, eL⟩ := X.letters
  obtain ⟨tm, eM⟩ := X.most
  refine ⟨_, pss_cons (ps_if (PW.pt (pw_or (pt_not (pt_val (pe_callB call_isi (by rfl) X.isi boot_isi (pa_cons (pv 0) (pa_cons (pe_bltn (v := .ty "str") rfl X.str boot_strT rfl) pa_nil)))))
      (pw_or1 (pt_not (pt_chain op_le op_le pe_int (pe_callB call_len_str (by rfl) X.len PySem.boot_len (pa_cons (pv 0) pa_nil)) (pe_glob (v := .int 8) rfl eM ⟨_, rfl⟩)))))) (pss_one (ps_ret pe_bl)) pss_nil)
    (pss_one (ps_ret (pe_and (pe_cmpR op_notIn_seq (pv 0) (pe_glob (v := .ref W) rfl X.words rfl) (by rfl))
      (pe_one (pe_allGx (k := 0) (own := [("letter", 1)]) (g := gName 1) (tt := tYes) hr rfl scIsName.nd rfl X.all boot_all TB rfl (gxS (N := ["thing", "letter"]) (sc := defScope sIsName) (by decide +kernel) rfl (by decide +kernel) (by decide +kernel)) (pi_str (pv 0))
        (fun _ _ _ _ _ _ => pg_name (i := 1) scIsName.nd rfl (Or.inl rfl)) (fun _ _ _ _ _ _ _ => pts_nil) (fun _ _ _ _ _ _ _ => pe_cmpR op_in_sign (pv 1) (pe_glob (v := .str letters) rfl eL ⟨_, rfl⟩) (by rfl))))))), ?_⟩
  have e0 : SqT K H W wordsV := X.wordsK H
  refine ⟨_, rfl, V.str a, V.ty "str", _, _, true, rfl, .ty "str", .base (.str a), kit_ty (by decide +kernel), _, rfl, ?_⟩
  show (if (!true) = true then _ else _)
  rw [if_neg (by decide)]
  refine ⟨_, rfl, a, rfl, hl, 1, _, rfl, rfl, _, rfl, ?_⟩
  have no : isNameB a = false → (tRet (tC (V.bl false))) { nx := fun _ H' => Q .non H', rt := Q } (L2.start ["thing", "letter"] [V.str a]) H := fun e => by
    have := k H (.inr rfl)
    rw [e] at this
    exact this
  have rest : ∀ b : Bool, isNameB a = (b && (!(inV (.str a) wordsV) && a.cps.toList.all fun c => decide (c ∈ letters.cps.toList))) → (if (!b) = true then (tRet (tC (V.bl false))) { nx := fun _ H' => Q .non H', rt := Q } (L2.start ["thing", "letter"] [V.str a]) H else
      (tRet (tAndV (tOp (rIn K true) (tVar 0) (tC (V.ref W))) (tGx T false (iStr (tVar 0)) (gName 1) tYes
        (tOp (fun x y H Q => ∃ c z, x = V.str ⟨#[c]⟩ ∧ y = V.str z ∧ Q (V.bl (decide (c ∈ z.cps.toList))) H) (tVar 1) (tC (V.str letters))) [1]))) { nx := fun _ H' => Q .non H', rt := Q } (L2.start ["thing", "letter"] [V.str a]) H) := fun b e => by
    cases b with
    | false =>
      rw [if_pos (by decide)]
      exact no e
    | true =>
      rw [if_neg (by decide)]
      rw [Bool.true_and] at e
      refine ⟨_, rfl, W, wordsV, rfl, .inr e0, rfl, by decide, _, rfl, ?_⟩
      show (if (!(inV (.str a) wordsV)) = true then _ else _)
      cases hin : inV (.str a) wordsV with
      | true =>
        rw [hin] at e
        rw [if_neg (by decide)]
        have := k H (.inr rfl)
        rw [e] at this
        exact this
      | false =>
        rw [hin] at e
        rw [if_pos (by decide)]
        have e : isNameB a = a.cps.toList.all fun c => decide (c ∈ letters.cps.toList) := e
        refine ⟨_, rfl, a, rfl, hT, _, fun H2 tab => ⟨_, rfl, Nat.zero_le _, tab, fun j cc hj _ => absurd hj (Nat.not_lt_zero _)⟩,
          gxt_yes a.cps.size (fun i H' => Tabbed T H H' ∧ ∀ j cc, j < i → a.cps[j]? = some cc → cc ∈ letters.cps.toList) (fun i _ h _ => h) (fun _ _ => Nat.le_refl _) (fun H' p => ?_) (fun _ => rfl) fun i x H1 H' hi p y => ?_⟩
        · have ea : isNameB a = true := by
            rw [e, List.all_eq_true]
            intro cc hcc
            obtain ⟨j, hj, ej⟩ := List.getElem_of_mem hcc
            have hj' : j < a.cps.size := by simpa using hj
            refine decide_eq_true (p.2 j cc hj' ?_)
            rw [Array.getElem?_eq_getElem hj', ← ej, Array.getElem_toList]
          have := k H' (.inl p.1)
          rw [ea] at this
          exact this
        · obtain ⟨rfl, cc, hcc, rfl⟩ := y
          refine ⟨_, rfl, cc, letters, rfl, rfl, _, rfl, fun hf => ?_, fun ht => ⟨p.1, fun j c2 hj h2 => ?_⟩⟩
          · have ea : isNameB a = false := by
              rw [e, List.all_eq_false]
              obtain ⟨hb, eb⟩ := Array.getElem?_eq_some_iff.mp hcc
              exact ⟨cc, by rw [← eb]; exact Array.getElem_mem_toList hb, fun z => Bool.noConfusion (hf.symm.trans z)⟩
            have := k H' (.inl p.1)
            rw [ea] at this
            exact this
          · rcases Nat.lt_or_ge j i with hl2 | hg2
            · exact p.2 j c2 hl2 h2
            · have : j = i := by omega
              subst this
              rw [hcc] at h2
              cases h2
              exact of_decide_eq_true (by simpa using ht)
  by_cases h1 : (1 : Int) ≤ (a.length : Int)
  · rw [if_pos (by simpa using h1)]
    refine ⟨_, 8, rfl, rfl, _, rfl, ?_⟩
    refine rest (decide ((a.length : Int) ≤ 8)) ?_
    have e1 : decide (1 ≤ a.length) = true := decide_eq_true (by omega)
    have e2 : decide (a.length ≤ 8) = decide ((a.length : Int) ≤ 8) := by
      by_cases h8 : a.length ≤ 8
      · rw [decide_eq_true h8, decide_eq_true (by omega)]
      · rw [decide_eq_false h8, decide_eq_false (by omega)]
    unfold isNameB
    rw [e1, e2, Bool.true_and, Bool.and_assoc]
  · rw [if_neg (by simpa using h1)]
    refine ⟨_, rfl, ?_⟩
    refine rest false ?_
    unfold isNameB
    rw [decide_eq_false (by omega : ¬ 1 ≤ a.length)]
    rfl
end
end GN

/-! GN2: a ground in the heap; what it tells: is_kind, is_work, is_maker, is_open, gives, falls_at, takes, makers, rights. -/
namespace GN
open PySem PySem.Spec PyProof.Rows L2 GenW GxR NdefX GX
abbrev met (j : Nat) : Stmt := inClass (top 38) j
/-- the five dicts of a ground -/
structure GD where
  ms : List (Key × V)
  ts : List (Key × V)
  gs : List (Key × V)
  fs : List (Key × V)
  rs : List (Key × V)
def gf (mk tk gv fa rt : Addr) : List (Str × V) := [("_makers", .ref mk), ("_takes", .ref tk), ("_gives", .ref gv), ("_falls_at", .ref fa), ("_rights", .ref rt)]
def GroundAt (C : Addr) (H : Hp) (g : Addr) (D : GD) : Prop := ∃ (dx mk tk gv fa rt : Addr), H g = some (.ins C dx (gf mk tk gv fa rt)) ∧
  H mk = some (.dK D.ms) ∧ H tk = some (.dK D.ts) ∧ H gv = some (.dK D.gs) ∧ H fa = some (.dK D.fs) ∧ H rt = some (.dK D.rs)
theorem GroundAt.same {C : Addr} {H H' : Hp} {g : Addr} {D : GD} (h : GroundAt C H g D) (e : Same H H') : GroundAt C H' g D := by
  obtain ⟨dx, mk, tk, gv, fa, rt, h0, h1, h2, h3, h4, h5⟩ := h
  exact ⟨dx, mk, tk, gv, fa, rt, e _ _ h0, e _ _ h1, e _ _ h2, e _ _ h3, e _ _ h4, e _ _ h5⟩
structure TxtG (K : PySem.W.Frag) (mg : Str → Option Value) (C : Addr) : Prop where
  cl : Cls K C
  n1 : NoAttr K C "_makers"
  n2 : NoAttr K C "_takes"
  n3 : NoAttr K C "_gives"
  n4 : NoAttr K C "_falls_at"
  n5 : NoAttr K C "_rights"
  isi : mg "isinstance" = none
  str : mg "str" = none
  lst : mg "list" = none
  len : mg "len" = none
/-- a value that may be a text -/
def TxtOr (K : PySem.W.Frag) (H : Hp) (x : V) (o : Option Str) : Prop := match o with
  | some a => x = .str a
  | none => ∃ t, TyX K H x t ∧ PySem.W.kitOne K t (.type "str") = some false
def has (kvs : List (Key × V)) (o : Option Str) : Bool := match o with
  | some a => (valV kvs (.inr a)).isSome
  | none => false
def GD.isKind (D : GD) (o : Option Str) : Bool := has D.ms o
def GD.isWork (D : GD) (o : Option Str) : Bool := has D.rs o
def GD.isMaker (D : GD) (o : Option Str) : Bool := has D.ts o && !has D.rs o
theorem txtOr_has {K : PySem.W.Frag} {H : Hp} {x : V} {o : Option Str} (h : TxtOr K H x o) : ∃ t : Value, TyX K H x t ∧ PySem.W.kitOne K t (.type "str") = some o.isSome := by
  cases o with
  | some a =>
    obtain rfl : x = .str a := h
    exact ⟨_, .base (.str a), kit_ty (b := "str") (r := true) (by decide +kernel)⟩
  | none => exact h
def spHas (C : Addr) (K : PySem.W.Frag) (f : GD → Option Str → Bool) : Sp := fun vs H Q _ => ∃ (g : Addr) (x : V) (o : Option Str) (D : GD), vs = [.ref g, x] ∧ GroundAt C H g D ∧ TxtOr K H x o ∧ Q (.bl (f D o)) H
section
variable {P : Program} {w : World} {K : PySem.W.Frag} {mg : Str → Option Value} {base : Heap} {f C : Addr} {fd : FuncData}
theorem sc8 : FnScope ["self", "thing"] ["self", "thing"] (defScope (met 12)) := ⟨rfl, rfl, rfl, by decide +kernel, rfl, by decide +kernel, by decide +kernel⟩
theorem ok_isKind (F : Fun K "is_kind" "Ground.is_kind" (met 12) f fd) (T : TxtG K mg C) : FnOk P w K mg base CX0 1 f fd ["self", "thing"] (spHas C K GD.isKind) := by
  refine F.ok sc8 (fun vs H Q E h => ?_) (fun cdv A outer s H vs Q E hr h => ?_)
  · obtain ⟨g, x, o, D, rfl, _⟩ := h
    rfl
  obtain ⟨g, x, o, D, rfl, ⟨dx, mk, tk, gv, fa, rt, h0, h1, h2, h3, h4, h5⟩, hx, k⟩ := h
  refine ⟨_, pss_one (ps_ret (pe_and (pe_callB call_isi (by rfl) T.isi boot_isi (pa_cons (pv 1) (pa_cons (pe_bltn (v := .ty "str") rfl T.str boot_strT rfl) pa_nil)))
    (pe_one (pe_cmp (pc_din (hu_of hr) (pv 1) (pe_fld (pv 0) rfl)))))), ?_⟩
  obtain ⟨ty, y1, y2⟩ := txtOr_has hx
  refine ⟨_, rfl, x, V.ty "str", _, _, _, rfl, .ty "str", y1, y2, _, rfl, ?_⟩
  cases o with
  | none => exact k
  | some a =>
    obtain rfl : x = .str a := hx
    exact ⟨_, rfl, _, rfl, g, C, dx, _, _, rfl, h0, T.cl, T.n1, rfl, mk, _, rfl, DGet.k (k := Sum.inr a) h1, k⟩
theorem sc13 : FnScope ["self", "thing"] ["self", "thing"] (defScope (met 14)) := ⟨rfl, rfl, rfl, by decide +kernel, rfl, by decide +kernel, by decide +kernel⟩
theorem ok_isWork (F : Fun K "is_work" "Ground.is_work" (met 14) f fd) (T : TxtG K mg C) : FnOk P w K mg base CX0 1 f fd ["self", "thing"] (spHas C K GD.isWork) := by
  refine F.ok sc13 (fun vs H Q E h => ?_) (fun cdv A outer s H vs Q E hr h => ?_)
  · obtain ⟨g, x, o, D, rfl, _⟩ := h
    rfl
  obtain ⟨g, x, o, D, rfl, ⟨dx, mk, tk, gv, fa, rt, h0, h1, h2, h3, h4, h5⟩, hx, k⟩ := h
  refine ⟨_, pss_one (ps_ret (pe_and (pe_callB call_isi (by rfl) T.isi boot_isi (pa_cons (pv 1) (pa_cons (pe_bltn (v := .ty "str") rfl T.str boot_strT rfl) pa_nil)))
    (pe_one (pe_cmp (pc_din (hu_of hr) (pv 1) (pe_fld (pv 0) rfl)))))), ?_⟩
  obtain ⟨ty, y1, y2⟩ := txtOr_has hx
  refine ⟨_, rfl, x, V.ty "str", _, _, _, rfl, .ty "str", y1, y2, _, rfl, ?_⟩
  cases o with
  | none => exact k
  | some a =>
    obtain rfl : x = .str a := hx
    exact ⟨_, rfl, _, rfl, g, C, dx, _, _, rfl, h0, T.cl, T.n5, rfl, rt, _, rfl, DGet.k (k := Sum.inr a) h5, k⟩
/-- d[f] of one of the dicts -/
def spGet (C : Addr) (d : GD → List (Key × V)) : Sp := fun vs H Q _ => ∃ (g : Addr) (a : Str) (D : GD) (v : V), vs = [.ref g, .str a] ∧ GroundAt C H g D ∧ valV (d D) (.inr a) = some v ∧ Q v H
/-- list(d[f]) -/
def spGetL (C : Addr) (K : PySem.W.Frag) (d : GD → List (Key × V)) : Sp := fun vs H Q _ => ∃ (g : Addr) (a : Str) (D : GD) (t : Addr) (ys : List V), vs = [.ref g, .str a] ∧ GroundAt C H g D ∧ valV (d D) (.inr a) = some (.ref t) ∧ SqT K H t ys ∧
  ∀ l, H l = none → Q (.ref l) (upd H l (.lst ys))
theorem sc9 : FnScope ["self", "f"] ["self", "f"] (defScope (met 9)) := ⟨rfl, rfl, rfl, by decide +kernel, rfl, by decide +kernel, by decide +kernel⟩
theorem ok_gives (F : Fun K "gives" "Ground.gives" (met 9) f fd) (T : TxtG K mg C) : FnOk P w K mg base CX0 1 f fd ["self", "f"] (spGet C GD.gs) := by
  refine F.ok sc9 (fun vs H Q E h => ?_) (fun cdv A outer s H vs Q E hr h => ?_)
  · obtain ⟨g, a, D, v, rfl, _⟩ := h
    rfl
  obtain ⟨g, a, D, v, rfl, ⟨dx, mk, tk, gv, fa, rt, h0, h1, h2, h3, h4, h5⟩, hv, k⟩ := h
  refine ⟨_, pss_one (ps_ret (pe_dget (hu_of hr) (pe_fld (pv 0) rfl) (pv 1) (fun _ _ => rfl))), ?_⟩
  have q := DGet.k (k := Sum.inr a) h3
  rw [hv] at q
  exact ⟨_, rfl, g, C, dx, _, _, rfl, h0, T.cl, T.n3, rfl, _, rfl, gv, v, rfl, q, k⟩
theorem sc15 : FnScope ["self", "f"] ["self", "f"] (defScope (met 16)) := ⟨rfl, rfl, rfl, by decide +kernel, rfl, by decide +kernel, by decide +kernel⟩
theorem ok_fallsAt (F : Fun K "falls_at" "Ground.falls_at" (met 16) f fd) (T : TxtG K mg C) : FnOk P w K mg base CX0 1 f fd ["self", "f"] (spGet C GD.fs) := by
  refine F.ok sc15 (fun vs H Q E h => ?_) (fun cdv A outer s H vs Q E hr h => ?_)
  · obtain ⟨g, a, D, v, rfl, _⟩ := h
    rfl
  obtain ⟨g, a, D, v, rfl, ⟨dx, mk, tk, gv, fa, rt, h0, h1, h2, h3, h4, h5⟩, hv, k⟩ := h
  refine ⟨_, pss_one (ps_ret (pe_dget (hu_of hr) (pe_fld (pv 0) rfl) (pv 1) (fun _ _ => rfl))), ?_⟩
  have q := DGet.k (k := Sum.inr a) h4
  rw [hv] at q
  exact ⟨_, rfl, g, C, dx, _, _, rfl, h0, T.cl, T.n4, rfl, _, rfl, fa, v, rfl, q, k⟩
theorem boot_lst : bootBuiltins "list" = some (.type "list") := by decide +kernel
theorem sc8' : FnScope ["self", "f"] ["self", "f"] (defScope (met 8)) := ⟨rfl, rfl, rfl, by decide +kernel, rfl, by decide +kernel, by decide +kernel⟩
theorem ok_takes (F : Fun K "takes" "Ground.takes" (met 8) f fd) (T : TxtG K mg C) : FnOk P w K mg base CX0 1 f fd ["self", "f"] (spGetL C K GD.ts) := by
  refine F.ok sc8' (fun vs H Q E h => ?_) (fun cdv A outer s H vs Q E hr h => ?_)
  · obtain ⟨g, a, D, t, ys, rfl, _⟩ := h
    rfl
  obtain ⟨g, a, D, t, ys, rfl, ⟨dx, mk, tk, gv, fa, rt, h0, h1, h2, h3, h4, h5⟩, hv, hs, k⟩ := h
  refine ⟨_, pss_one (ps_ret (pe_callTy call_list_of (by rfl) T.lst boot_lst (pa_cons (pe_dget (hu_of hr) (pe_fld (pv 0) rfl) (pv 1) (fun _ _ => rfl)) pa_nil))), ?_⟩
  have q := DGet.k (k := Sum.inr a) h2
  rw [hv] at q
  exact ⟨_, rfl, g, C, dx, _, _, rfl, h0, T.cl, T.n2, rfl, _, rfl, tk, .ref t, rfl, q, t, ys, rfl, .inr hs, k⟩
theorem sc16 : FnScope ["self", "f"] ["self", "f"] (defScope (met 17)) := ⟨rfl, rfl, rfl, by decide +kernel, rfl, by decide +kernel, by decide +kernel⟩
theorem ok_rights (F : Fun K "rights" "Ground.rights" (met 17) f fd) (T : TxtG K mg C) : FnOk P w K mg base CX0 1 f fd ["self", "f"] (spGetL C K GD.rs) := by
  refine F.ok sc16 (fun vs H Q E h => ?_) (fun cdv A outer s H vs Q E hr h => ?_)
  · obtain ⟨g, a, D, t, ys, rfl, _⟩ := h
    rfl
  obtain ⟨g, a, D, t, ys, rfl, ⟨dx, mk, tk, gv, fa, rt, h0, h1, h2, h3, h4, h5⟩, hv, hs, k⟩ := h
  refine ⟨_, pss_one (ps_ret (pe_callTy call_list_of (by rfl) T.lst boot_lst (pa_cons (pe_dget (hu_of hr) (pe_fld (pv 0) rfl) (pv 1) (fun _ _ => rfl)) pa_nil))), ?_⟩
  have q := DGet.k (k := Sum.inr a) h5
  rw [hv] at q
  exact ⟨_, rfl, g, C, dx, _, _, rfl, h0, T.cl, T.n5, rfl, _, rfl, rt, .ref t, rfl, q, t, ys, rfl, .inr hs, k⟩
theorem sc10 : FnScope ["self", "kind"] ["self", "kind"] (defScope (met 11)) := ⟨rfl, rfl, rfl, by decide +kernel, rfl, by decide +kernel, by decide +kernel⟩
theorem ok_makers (F : Fun K "makers" "Ground.makers" (met 11) f fd) (T : TxtG K mg C) : FnOk P w K mg base CX0 1 f fd ["self", "kind"] (spGetL C K GD.ms) := by
  refine F.ok sc10 (fun vs H Q E h => ?_) (fun cdv A outer s H vs Q E hr h => ?_)
  · obtain ⟨g, a, D, t, ys, rfl, _⟩ := h
    rfl
  obtain ⟨g, a, D, t, ys, rfl, ⟨dx, mk, tk, gv, fa, rt, h0, h1, h2, h3, h4, h5⟩, hv, hs, k⟩ := h
  refine ⟨_, pss_one (ps_ret (pe_callTy call_list_of (by rfl) T.lst boot_lst (pa_cons (pe_dget (hu_of hr) (pe_fld (pv 0) rfl) (pv 1) (fun _ _ => rfl)) pa_nil))), ?_⟩
  have q := DGet.k (k := Sum.inr a) h1
  rw [hv] at q
  exact ⟨_, rfl, g, C, dx, _, _, rfl, h0, T.cl, T.n1, rfl, _, rfl, mk, .ref t, rfl, q, t, ys, rfl, .inr hs, k⟩
end
end GN

/-! GN3: _need, _is_list, _is_row, is_whole, is_open, _need_new (of what is good). -/
namespace GN
open PySem PySem.Spec PyProof.Rows L2 GenW GxR NdefX GX
/-- a statement that is not reached -/
theorem ps_off {X : Cx} {st : Stmt} : PS X st (fun _ _ _ => False) := ⟨fun _ _ _ _ _ _ h => h.elim⟩
theorem trefl {T : Addr} {H : Hp} (h : TabG H T) : Tabbed T H H := ⟨h, fun _ _ => rfl⟩
theorem ttrans {T : Addr} {H H1 H2 : Hp} (a : Tabbed T H H1) (b : Tabbed T H1 H2) : Tabbed T H H2 := ⟨b.1, fun x hx => (b.2 x hx).trans (a.2 x hx)⟩
theorem tget {T : Addr} {H H' : Hp} (h : Tabbed T H H') (hT : TabG H T) {b : Addr} {o : HO} (e : H b = some o) (hn : ∀ q, o ≠ .tbl q) : H' b = some o := by
  by_cases hb : b = T
  · obtain ⟨ps, hp, _⟩ := hT
    rw [hb, hp] at e
    cases e
    exact absurd rfl (hn ps)
  · rw [h.2 b hb]; exact e
theorem tnone {T : Addr} {H H' : Hp} (h : Tabbed T H H') (hT : TabG H T) {b : Addr} (e : H b = none) : H' b = none := by
  by_cases hb : b = T
  · obtain ⟨ps, hp, _⟩ := hT
    rw [hb, hp] at e
    cases e
  · rw [h.2 b hb]; exact e
theorem GroundAt.tab {C T : Addr} {H H' : Hp} {g : Addr} {D : GD} (h : GroundAt C H g D) (e : Tabbed T H H') (hT : TabG H T) : GroundAt C H' g D := by
  obtain ⟨dx, mk, tk, gv, fa, rt, h0, h1, h2, h3, h4, h5⟩ := h
  exact ⟨dx, mk, tk, gv, fa, rt, tget e hT h0 (by intro q z; cases z), tget e hT h1 (by intro q z; cases z), tget e hT h2 (by intro q z; cases z), tget e hT h3 (by intro q z; cases z), tget e hT h4 (by intro q z; cases z), tget e hT h5 (by intro q z; cases z)⟩
section
variable {P : Program} {w : World} {K : PySem.W.Frag} {mg : Str → Option Value} {base : Heap} {f C : Addr} {fd : FuncData}
theorem boot_intT : bootBuiltins "int" = some (.type "int") := by decide +kernel
theorem boot_boolT : bootBuiltins "bool" = some (.type "bool") := by decide +kernel
theorem boot_tupT : bootBuiltins "tuple" = some (.type "tuple") := by decide +kernel
/-! ### _need -/
abbrev sNeed : Stmt := top 39
theorem scNeed : FnScope ["holds", "why"] ["holds", "why"] (defScope sNeed) := ⟨rfl, rfl, rfl, by decide +kernel, rfl, by decide +kernel, by decide +kernel⟩
def spNeed : Sp := fun vs H Q _ => ∃ why : V, vs = [.bl true, why] ∧ Q .non H
theorem ok_need (F : Fun K "_need" "_need" sNeed f fd) : FnOk P w K mg base CX0 1 f fd ["holds", "why"] spNeed := by
  refine F.ok scNeed (fun vs H Q E h => ?_) (fun cdv A outer s H vs Q E hr h => ?_)
  · obtain ⟨y, rfl, _⟩ := h
    rfl
  obtain ⟨y, rfl, k⟩ := h
  refine ⟨_, pss_one (ps_if (pt_not (pt_val (pv 0))) (pss_one ps_off) pss_nil), ?_⟩
  refine ⟨_, rfl, _, rfl, ?_⟩
  exact k
/-! ### _is_list, _is_row, is_whole -/
abbrev sIsList : Stmt := top 40
theorem scIsList : FnScope ["thing", "most"] ["thing", "most"] (defScope sIsList) := ⟨rfl, rfl, rfl, by decide +kernel, rfl, by decide +kernel, by decide +kernel⟩
def spIsList : Sp := fun vs H Q _ => ∃ (a : Addr) (xs : List V) (m : Int), vs = [.ref a, .int m] ∧ H a = some (.lst xs) ∧ Q (.bl (decide ((xs.length : Int) ≤ m))) H
theorem ok_isList (F : Fun K "_is_list" "_is_list" sIsList f fd) (T : TxtG K mg C) : FnOk P w K mg base CX0 1 f fd ["thing", "most"] spIsList := by
  refine F.ok scIsList (fun vs H Q E h => ?_) (fun cdv A outer s H vs Q E hr h => ?_)
  · obtain ⟨a, xs, m, rfl, _⟩ := h
    rfl
  obtain ⟨a, xs, m, rfl, ha, k⟩ := h
  refine ⟨_, pss_one (ps_ret (pe_and (pe_callB call_isi (by rfl) T.isi boot_isi (pa_cons (pv 0) (pa_cons (pe_bltn (v := .ty "list") rfl T.lst boot_lst rfl) pa_nil)))
    (pe_one (pe_cmpR op_le (pe_callB call_len_seq (by rfl) T.len PySem.boot_len (pa_cons (pv 0) pa_nil)) (pv 1) (nomark _))))), ?_⟩
  refine ⟨_, rfl, V.ref a, V.ty "list", _, _, true, rfl, .ty "list", .base (.lst ha), kit_ty (by decide +kernel), _, rfl, ?_⟩
  exact ⟨_, rfl, a, xs, rfl, .inl (SqL.of ha), _, rfl, _, _, rfl, rfl, k⟩
abbrev sIsRow : Stmt := top 41
theorem scIsRow : FnScope ["thing", "many"] ["thing", "many"] (defScope sIsRow) := ⟨rfl, rfl, rfl, by decide +kernel, rfl, by decide +kernel, by decide +kernel⟩
def spIsRow : Sp := fun vs H Q _ => ∃ (a : Addr) (xs : List V) (m : Int), vs = [.ref a, .int m] ∧ H a = some (.tup xs) ∧ Q (.bl (decide ((xs.length : Int) = m))) H
theorem ok_isRow (F : Fun K "_is_row" "_is_row" sIsRow f fd) (T : TxtG K mg C) (htup : mg "tuple" = none) : FnOk P w K mg base CX0 1 f fd ["thing", "many"] spIsRow := by
  refine F.ok scIsRow (fun vs H Q E h => ?_) (fun cdv A outer s H vs Q E hr h => ?_)
  · obtain ⟨a, xs, m, rfl, _⟩ := h
    rfl
  obtain ⟨a, xs, m, rfl, ha, k⟩ := h
  refine ⟨_, pss_one (ps_ret (pe_and (pe_callB call_isi (by rfl) T.isi boot_isi (pa_cons (pv 0) (pa_cons (pe_bltn (v := .ty "tuple") rfl htup boot_tupT rfl) pa_nil)))
    (pe_one (pe_cmpR op_eq (pe_callB call_len_seq (by rfl) T.len PySem.boot_len (pa_cons (pv 0) pa_nil)) (pv 1) (nomark _))))), ?_⟩
  refine ⟨_, rfl, V.ref a, V.ty "tuple", _, _, true, rfl, .ty "tuple", .base (.tup ha), kit_ty (by decide +kernel), _, rfl, ?_⟩
  refine ⟨_, rfl, a, xs, rfl, .inr (SqT.of ha), _, rfl, rfl, ?_⟩
  rw [show decide (V.int (xs.length : Int) = V.int m) = decide ((xs.length : Int) = m) from decide_eq_decide.mpr ⟨V.int.inj, congrArg _⟩]
  exact k
/-! ### is_open -/
theorem sc14 : FnScope ["self", "thing"] ["self", "thing"] (defScope (met 15)) := ⟨rfl, rfl, rfl, by decide +kernel, rfl, by decide +kernel, by decide +kernel⟩
/-- every value of the dict is a tuple -/
def Tups (K : PySem.W.Frag) (H : Hp) (kvs : List (Key × V)) : Prop := ∀ k v, valV kvs k = some v → ∃ t ys, v = .ref t ∧ SqT K H t ys
def emptyAt (K : PySem.W.Frag) (H : Hp) (kvs : List (Key × V)) (a : Str) (b : Bool) : Prop := ∃ t ys, valV kvs (.inr a) = some (.ref t) ∧ SqT K H t ys ∧ b = ys.isEmpty
/-- is_open: r by what it is -/
def OpenIs (K : PySem.W.Frag) (H : Hp) (D : GD) (o : Option Str) (r : Bool) : Prop := match o with
  | none => r = false
  | some a => (D.isKind o = true ∧ emptyAt K H D.ms a r) ∨ (D.isKind o = false ∧ D.isWork o = true ∧ emptyAt K H D.rs a r) ∨ (D.isKind o = false ∧ D.isWork o = false ∧ r = false)
def spOpen (C : Addr) (K : PySem.W.Frag) : Sp := fun vs H Q _ => ∃ (g : Addr) (x : V) (o : Option Str) (D : GD) (r : Bool), vs = [.ref g, x] ∧ GroundAt C H g D ∧ TxtOr K H x o ∧ OpenIs K H D o r ∧ Q (.bl r) H
theorem gf_no {mk tk gv fa rt : Addr} {m : Str} (h : (m == "_makers" || m == "_takes" || m == "_gives" || m == "_falls_at" || m == "_rights") = false) : (gf mk tk gv fa rt).lookup m = none := by
  simp only [Bool.or_eq_false_iff] at h
  obtain ⟨⟨⟨⟨h1, h2⟩, h3⟩, h4⟩, h5⟩ := h
  unfold gf
  simp only [List.lookup_cons, h1, h2, h3, h4, h5, List.lookup_nil]
theorem ok_isOpen {fk fw : Addr} {fdk fdw : FuncData} (F : Fun K "is_open" "Ground.is_open" (met 15) f fd) (T : TxtG K mg C) (Mk : Meth K C "is_kind" fk) (Mw : Meth K C "is_work" fw)
    (Gk : FnOk P w K mg base CX0 1 fk fdk ["self", "thing"] (spHas C K GD.isKind)) (Gw : FnOk P w K mg base CX0 1 fw fdw ["self", "thing"] (spHas C K GD.isWork)) (bk : Binds K fdk ["self", "thing"] []) (bw : Binds K fdw ["self", "thing"] []) :
    FnOk P w K mg base CX0 2 f fd ["self", "thing"] (spOpen C K) := by
  refine F.ok sc14 (fun vs H Q E h => ?_) (fun cdv A outer s H vs Q E hr h => ?_)
  · obtain ⟨g, x, o, D, r, rfl, _⟩ := h
    rfl
  obtain ⟨g, x, o, D, r, rfl, G0, hx, hr', k⟩ := h
  obtain ⟨dx, mk, tk, gv, fa, rt, h0, h1, h2, h3, h4, h5⟩ := id G0
  refine ⟨_, pss_cons (ps_if (pt_val (pe_meth (pv 0) T.cl Mk Gk hr bk .nil pass0 (pa_cons (pv 1) pa_nil))) (pss_one (ps_ret (pe_notT (pe_dget (hu_of hr) (pe_fld (pv 0) rfl) (pv 1) (fun _ _ => rfl))))) pss_nil)
    (pss_one (ps_ret (pe_and (pe_meth (pv 0) T.cl Mw Gw hr bw .nil pass0 (pa_cons (pv 1) pa_nil)) (pe_one (pe_notT (pe_dget (hu_of hr) (pe_fld (pv 0) rfl) (pv 1) (fun _ _ => rfl))))))), ?_⟩
  refine ⟨_, rfl, g, dx, _, rfl, h0, gf_no (by decide +kernel), _, rfl, g, x, o, D, rfl, G0, hx, _, rfl, ?_⟩
  cases o with
  | none =>
    have e : D.isKind none = false := rfl
    rw [e, if_neg (by decide)]
    refine ⟨_, rfl, g, dx, _, rfl, h0, gf_no (by decide +kernel), _, rfl, g, x, none, D, rfl, G0, hx, _, rfl, ?_⟩
    have hr' : r = false := hr'
    rw [hr'] at k
    exact k
  | some a =>
    obtain rfl : x = .str a := hx
    rcases hr' with ⟨e1, t, ys, e2, e3, e4⟩ | ⟨e1, e5, t, ys, e2, e3, e4⟩ | ⟨e1, e5, e4⟩
    · rw [e1, if_pos rfl]
      have q := DGet.k (k := Sum.inr a) h1
      rw [e2] at q
      refine ⟨_, rfl, g, C, dx, _, _, rfl, h0, T.cl, T.n1, rfl, _, rfl, mk, .ref t, rfl, q, !ys.isEmpty, .inr (.inl ⟨ys, e3, rfl⟩), ?_⟩
      rw [e4] at k
      rw [Bool.not_not]
      exact k
    · rw [e1, if_neg (by decide)]
      refine ⟨_, rfl, g, dx, _, rfl, h0, gf_no (by decide +kernel), _, rfl, g, .str a, some a, D, rfl, G0, rfl, _, rfl, ?_⟩
      rw [e5, if_pos rfl]
      have q := DGet.k (k := Sum.inr a) h5
      rw [e2] at q
      refine ⟨_, rfl, g, C, dx, _, _, rfl, h0, T.cl, T.n5, rfl, _, rfl, rt, .ref t, rfl, q, !ys.isEmpty, .inr (.inl ⟨ys, e3, rfl⟩), ?_⟩
      rw [e4] at k
      rw [Bool.not_not]
      exact k
    · rw [e1, if_neg (by decide)]
      refine ⟨_, rfl, g, dx, _, rfl, h0, gf_no (by decide +kernel), _, rfl, g, .str a, some a, D, rfl, G0, rfl, _, rfl, ?_⟩
      rw [e5, if_neg (by decide)]
      rw [e4] at k
      exact k
end
end GN

/-! GN4: _need_new, _add_maker. -/
namespace GN
open PySem PySem.Spec PyProof.Rows L2 GenW GxR NdefX GX
section
variable {P : Program} {w : World} {K : PySem.W.Frag} {mg : Str → Option Value} {base : Heap} {f C T W : Addr} {fd : FuncData}
theorem sc5 : FnScope ["self", "name"] ["self", "name"] (defScope (met 5)) := ⟨rfl, rfl, rfl, by decide +kernel, rfl, by decide +kernel, by decide +kernel⟩
/-- a new name, good -/
def spNeedNew (C T W : Addr) : Sp := fun vs H Q _ => ∃ (g : Addr) (a : Str) (D : GD), vs = [.ref g, .str a] ∧ GroundAt C H g D ∧ isNameB a = true ∧ has D.ms (some a) = false ∧ has D.ts (some a) = false ∧ TabG H T ∧ ∀ H', Tabbed T H H' → Q .non H'
theorem len_name {a : Str} (h : isNameB a = true) : a.length ≤ 8 := by
  unfold isNameB at h
  simp only [Bool.and_eq_true, decide_eq_true_eq] at h
  exact h.1.1.2
/-- the defs that are called by name -/
structure Defs (P : Program) (w : World) (K : PySem.W.Frag) (mg : Str → Option Value) (base : Heap) (T W : Addr) where
  fn : Addr
  fdn : FuncData
  fi : Addr
  fdi : FuncData
  fl : Addr
  fdl : FuncData
  fr : Addr
  fdr : FuncData
  need : FnOk P w K mg base CX0 1 fn fdn ["holds", "why"] spNeed
  bneed : Binds K fdn ["holds", "why"] []
  mneed : mg "_need" = some (.ref fn)
  kneed : PySem.W.keepIn K (.ref fn) = true
  isn : FnOk P w K mg base CX0 3 fi fdi ["thing"] (spIsName W T)
  bisn : Binds K fdi ["thing"] []
  misn : mg "is_name" = some (.ref fi)
  kisn : PySem.W.keepIn K (.ref fi) = true
  isl : FnOk P w K mg base CX0 1 fl fdl ["thing", "most"] spIsList
  bisl : Binds K fdl ["thing", "most"] []
  misl : mg "_is_list" = some (.ref fl)
  kisl : PySem.W.keepIn K (.ref fl) = true
  isr : FnOk P w K mg base CX0 1 fr fdr ["thing", "many"] spIsRow
  bisr : Binds K fdr ["thing", "many"] []
  misr : mg "_is_row" = some (.ref fr)
  kisr : PySem.W.keepIn K (.ref fr) = true
theorem ok_needNew (F : Fun K "_need_new" "Ground._need_new" (met 5) f fd) (X : TxtG K mg C) (Df : Defs P w K mg base T W) : FnOk P w K mg base CX0 4 f fd ["self", "name"] (spNeedNew C T W) := by
  refine F.ok sc5 (fun vs H Q E h => ?_) (fun cdv A outer s H vs Q E hr h => ?_)
  · obtain ⟨g, a, D, rfl, _⟩ := h
    rfl
  obtain ⟨g, a, D, rfl, G0, hn, m1, m2, hT, k⟩ := h
  refine ⟨_, pss_cons (ps_expr (pe_call Df.need (hr.mono (by decide)) rfl Df.mneed Df.kneed Df.bneed .nil pass0 (pa_cons (pe_call Df.isn hr rfl Df.misn Df.kisn Df.bisn .nil pass0 (pa_cons (pv 1) pa_nil)) (pa_cons pe_str pa_nil))))
    (pss_one (ps_expr (pe_call Df.need (hr.mono (by decide)) rfl Df.mneed Df.kneed Df.bneed .nil pass0 (pa_cons (pe_and (pe_cmp (pc_dnotin (hu_of hr) (pv 1) (pe_fld (pv 0) rfl))) (pe_one (pe_cmp (pc_dnotin (hu_of hr) (pv 1) (pe_fld (pv 0) rfl))))) (pa_cons pe_str pa_nil))))), ?_⟩
  refine ⟨_, rfl, a, rfl, Nat.le_trans (len_name hn) (by decide), hT, fun H1 h1 => ?_⟩
  have h1 : Tabbed T H H1 := h1.elim id fun e => by rw [e]; exact trefl hT
  rw [hn]
  refine ⟨_, rfl, ?_⟩
  obtain ⟨dx, mk, tk, gv, fa, rt, g0, g1, g2, g3, g4, g5⟩ := G0.tab h1 hT
  have e1 : (valV D.ms (.inr a)).isSome = false := m1
  have e2 : (valV D.ts (.inr a)).isSome = false := m2
  have q1 := DGet.k (k := Sum.inr a) g1
  have q2 := DGet.k (k := Sum.inr a) g2
  refine ⟨_, rfl, _, rfl, g, C, dx, _, _, rfl, g0, X.cl, X.n1, rfl, mk, _, rfl, q1, _, rfl, ?_⟩
  rw [e1, if_pos (by decide)]
  refine ⟨_, rfl, _, rfl, g, C, dx, _, _, rfl, g0, X.cl, X.n2, rfl, tk, _, rfl, q2, ?_⟩
  rw [e2]
  exact ⟨_, rfl, k H1 h1⟩
end
end GN

/-! GN5: a ground's dicts as lists of what was handed in. -/
namespace GN
open PySem PySem.Spec PyProof.Rows L2 GenW GxR NdefX GX
section
variable {α : Type} {f : α → Str} {rel rel' : V → α → Prop}
/-- a dict's items, one by one -/
def KvR (f : α → Str) (rel : V → α → Prop) : List (Key × V) → List α → Prop
  | [], [] => True
  | kv :: r, x :: xs => kv.1 = Sum.inr (f x) ∧ rel kv.2 x ∧ KvR f rel r xs
  | _, _ => False
theorem KvR.mono (h : ∀ v x, rel v x → rel' v x) : ∀ {kvs : List (Key × V)} {xs : List α}, KvR f rel kvs xs → KvR f rel' kvs xs
  | [], [], _ => trivial
  | _ :: _, _ :: _, ⟨a, b, c⟩ => ⟨a, h _ _ b, c.mono h⟩
  | [], _ :: _, z => z.elim
  | _ :: _, [], z => z.elim
theorem KvR.snoc : ∀ {kvs : List (Key × V)} {xs : List α} {x : α} {v : V}, KvR f rel kvs xs → rel v x → KvR f rel (kvs ++ [(Sum.inr (f x), v)]) (xs ++ [x])
  | [], [], _, _, _, h => ⟨rfl, h, trivial⟩
  | _ :: _, _ :: _, _, _, ⟨a, b, c⟩, h => ⟨a, b, c.snoc h⟩
  | [], _ :: _, _, _, z, _ => z.elim
  | _ :: _, [], _, _, z, _ => z.elim
theorem KvR.length : ∀ {kvs : List (Key × V)} {xs : List α}, KvR f rel kvs xs → kvs.length = xs.length
  | [], [], _ => rfl
  | _ :: _, _ :: _, ⟨_, _, c⟩ => congrArg (· + 1) c.length
  | [], _ :: _, z => z.elim
  | _ :: _, [], z => z.elim
theorem valV_cons {k : Key} {v : V} {r : List (Key × V)} {a : Key} : valV ((k, v) :: r) a = if k = a then some v else valV r a := by
  unfold valV
  rw [List.find?_cons]
  by_cases h : k = a
  · rw [if_pos h]; simp [h]
  · rw [if_neg h]; simp [h]
theorem KvR.none : ∀ {kvs : List (Key × V)} {xs : List α} {a : Str}, KvR f rel kvs xs → (∀ x ∈ xs, f x ≠ a) → valV kvs (Sum.inr a) = none
  | [], [], _, _, _ => rfl
  | (k, v) :: r, x :: xs, a, ⟨e, _, c⟩, h => by
    rw [valV_cons, if_neg, c.none fun y hy => h y (List.mem_cons_of_mem _ hy)]
    intro z
    rw [show k = Sum.inr (f x) from e] at z
    exact h x List.mem_cons_self (Sum.inr.inj z)
  | [], _ :: _, _, z, _ => z.elim
  | _ :: _, [], _, z, _ => z.elim
theorem KvR.val : ∀ {kvs : List (Key × V)} {xs : List α} {x : α}, KvR f rel kvs xs → x ∈ xs → (xs.map f).Nodup → ∃ v, valV kvs (Sum.inr (f x)) = some v ∧ rel v x
  | [], [], _, _, h, _ => by cases h
  | (k, v) :: r, y :: ys, x, ⟨e, b, c⟩, h, nd => by
    rw [List.map_cons, List.nodup_cons] at nd
    rw [valV_cons]
    rcases List.mem_cons.mp h with rfl | h
    · rw [if_pos e]
      exact ⟨v, rfl, b⟩
    · rw [if_neg]
      · exact c.val h nd.2
      · intro z
        rw [show k = Sum.inr (f y) from e] at z
        exact nd.1 (by rw [Sum.inr.inj z]; exact List.mem_map.mpr ⟨x, h, rfl⟩)
  | [], _ :: _, _, z, _, _ => z.elim
  | _ :: _, [], _, z, _, _ => z.elim
theorem any_false {kvs : List (Key × V)} {k : Key} (h : valV kvs k = none) : (kvs.any fun kv => decide (kv.1 = k)) = false := by
  induction kvs with
  | nil => rfl
  | cons kv r ih =>
    obtain ⟨k', v⟩ := kv
    rw [valV_cons] at h
    by_cases e : k' = k
    · rw [if_pos e] at h; cases h
    · rw [if_neg e] at h
      rw [List.any_cons, ih h]
      simp [e]
theorem putK_new {kvs : List (Key × V)} {k : Key} {v : V} (h : valV kvs k = none) : putK kvs k v = kvs ++ [(k, v)] := by
  unfold putK
  rw [if_neg (by rw [any_false h]; decide)]
theorem map_off {kvs : List (Key × V)} {k : Key} {v : V} (h : valV kvs k = none) : (kvs.map fun kv => if kv.1 = k then (kv.1, v) else kv) = kvs := by
  induction kvs with
  | nil => rfl
  | cons kv r ih =>
    obtain ⟨k', v'⟩ := kv
    rw [valV_cons] at h
    by_cases e : k' = k
    · rw [if_pos e] at h; cases h
    · rw [if_neg e] at h
      rw [List.map_cons, ih h, if_neg e]
theorem putK_last {kvs : List (Key × V)} {k : Key} {v v0 : V} (h : valV kvs k = none) : putK (kvs ++ [(k, v0)]) k v = kvs ++ [(k, v)] := by
  unfold putK
  rw [if_pos (by rw [List.any_append]; simp)]
  rw [List.map_append, map_off h]
  simp
theorem KvR.split : ∀ {kvs : List (Key × V)} {xs : List α} {x : α}, KvR f rel kvs (xs ++ [x]) → ∃ kvs' v, kvs = kvs' ++ [(Sum.inr (f x), v)] ∧ KvR f rel kvs' xs ∧ rel v x
  | (k, v) :: r, [], x, ⟨e, b, c⟩ => by
    match r, c with
    | [], _ => exact ⟨[], v, by rw [show k = Sum.inr (f x) from e]; rfl, trivial, b⟩
  | kv :: r, y :: ys, x, ⟨e, b, c⟩ => by
    obtain ⟨kvs', v, e1, h1, h2⟩ := c.split
    exact ⟨kv :: kvs', v, by rw [e1]; rfl, ⟨e, b, h1⟩, h2⟩
  | [], _ :: _, _, z => z.elim
  | [], [], _, z => z.elim
end
abbrev txs (l : List Str) : List V := l.map V.str
/-- v is a new tuple of these texts -/
def tupS (H : Hp) (v : V) (l : List Str) : Prop := ∃ t, v = .ref t ∧ H t = some (.tup (txs l))
structure GA where
  dx : Addr
  m : Addr
  t : Addr
  v : Addr
  a : Addr
  r : Addr
/-- a ground that is being made: its kinds so far with their makers, what each maker and work takes, gives, its place, its rights -/
structure Bld (C : Addr) (g : Addr) (A : GA) (H : Hp) (ks : List (Str × List Str)) (ts : List (Str × List Str)) (gs : List (Str × Str)) (fs : List (Str × V)) (rs : List (Str × List V)) : Prop where
  nd : [A.m, A.t, A.v, A.a, A.r].Nodup
  g0 : H g = some (.ins C A.dx (gf A.m A.t A.v A.a A.r))
  ms : ∃ d, H A.m = some (.dK d) ∧ KvR (·.1) (fun v x => tupS H v x.2) d ks
  ts : ∃ d, H A.t = some (.dK d) ∧ KvR (·.1) (fun v x => tupS H v x.2) d ts
  gs : ∃ d, H A.v = some (.dK d) ∧ KvR (·.1) (fun v x => v = .str x.2) d gs
  fs : ∃ d, H A.a = some (.dK d) ∧ KvR (·.1) (fun v x => v = x.2) d fs
  rs : ∃ d, H A.r = some (.dK d) ∧ KvR (·.1) (fun v x => ∃ t, v = .ref t ∧ H t = some (.tup x.2)) d rs
/-- all stays but the ground's dicts and the table -/
def KeptG (A : GA) (T : Addr) (H H' : Hp) : Prop := ∀ b o, H b = some o → b ≠ A.m → b ≠ A.t → b ≠ A.v → b ≠ A.a → b ≠ A.r → b ≠ T → H' b = some o
theorem KeptG.trans {A : GA} {T : Addr} {H H1 H2 : Hp} (a : KeptG A T H H1) (b : KeptG A T H1 H2) : KeptG A T H H2 := fun x o e h1 h2 h3 h4 h5 h6 => b x o (a x o e h1 h2 h3 h4 h5 h6) h1 h2 h3 h4 h5 h6
theorem KeptG.tab {A : GA} {T : Addr} {H H1 : Hp} (h : Tabbed T H H1) : KeptG A T H H1 := fun b o e _ _ _ _ _ h6 => by rw [h.2 b h6]; exact e
theorem KeptG.refl {A : GA} {T : Addr} {H : Hp} : KeptG A T H H := fun _ _ e _ _ _ _ _ _ => e
theorem KeptG.new {A : GA} {T p : Addr} {H : Hp} {o : HO} (h : H p = none) : KeptG A T H (upd H p o) := fun b u e _ _ _ _ _ _ => by rw [upd_ne (ne_of_none e h)]; exact e
section
variable {C g T : Addr} {A : GA} {H H' : Hp} {ks ts : List (Str × List Str)} {gs : List (Str × Str)} {fs : List (Str × V)} {rs : List (Str × List V)}
/-- the ground as what tells reads it -/
theorem Bld.at (B : Bld C g A H ks ts gs fs rs) : ∃ D : GD, GroundAt C H g D ∧ KvR (·.1) (fun v x => tupS H v x.2) D.ms ks ∧ KvR (·.1) (fun v x => tupS H v x.2) D.ts ts ∧ KvR (·.1) (fun v x => v = .str x.2) D.gs gs ∧ KvR (·.1) (fun v x => v = x.2) D.fs fs ∧
    KvR (·.1) (fun v x => ∃ t, v = .ref t ∧ H t = some (.tup x.2)) D.rs rs := by
  obtain ⟨d1, e1, h1⟩ := B.ms
  obtain ⟨d2, e2, h2⟩ := B.ts
  obtain ⟨d3, e3, h3⟩ := B.gs
  obtain ⟨d4, e4, h4⟩ := B.fs
  obtain ⟨d5, e5, h5⟩ := B.rs
  exact ⟨⟨d1, d2, d3, d4, d5⟩, ⟨_, _, _, _, _, _, B.g0, e1, e2, e3, e4, e5⟩, h1, h2, h3, h4, h5⟩
theorem Bld.tab (B : Bld C g A H ks ts gs fs rs) (h : Tabbed T H H') (hT : TabG H T) : Bld C g A H' ks ts gs fs rs := by
  have tp : ∀ v l, tupS H v l → tupS H' v l := fun v l ⟨t, e, ht⟩ => ⟨t, e, tget h hT ht (by intro q z; cases z)⟩
  obtain ⟨d1, e1, h1⟩ := B.ms
  obtain ⟨d2, e2, h2⟩ := B.ts
  obtain ⟨d3, e3, h3⟩ := B.gs
  obtain ⟨d4, e4, h4⟩ := B.fs
  obtain ⟨d5, e5, h5⟩ := B.rs
  exact ⟨B.nd, tget h hT B.g0 (by intro q z; cases z), ⟨d1, tget h hT e1 (by intro q z; cases z), h1.mono fun v x => tp v _⟩, ⟨d2, tget h hT e2 (by intro q z; cases z), h2.mono fun v x => tp v _⟩,
    ⟨d3, tget h hT e3 (by intro q z; cases z), h3⟩, ⟨d4, tget h hT e4 (by intro q z; cases z), h4⟩, ⟨d5, tget h hT e5 (by intro q z; cases z), h5.mono fun v x ⟨t, e, ht⟩ => ⟨t, e, tget h hT ht (by intro q z; cases z)⟩⟩⟩
end
end GN

/-! GN6: _add_maker (of what is good). -/
namespace GN
open PySem PySem.Spec PyProof.Rows L2 GenW GxR NdefX GX
/-- the methods that are called -/
structure Mets (P : Program) (w : World) (K : PySem.W.Frag) (mg : Str → Option Value) (base : Heap) (C T W : Addr) where
  fk : Addr
  fdk : FuncData
  fo : Addr
  fdo : FuncData
  fn : Addr
  fdn : FuncData
  mK : Meth K C "is_kind" fk
  kind : FnOk P w K mg base CX0 1 fk fdk ["self", "thing"] (spHas C K GD.isKind)
  bk : Binds K fdk ["self", "thing"] []
  mo : Meth K C "is_open" fo
  opn : FnOk P w K mg base CX0 2 fo fdo ["self", "thing"] (spOpen C K)
  bo : Binds K fdo ["self", "thing"] []
  mn : Meth K C "_need_new" fn
  new : FnOk P w K mg base CX0 4 fn fdn ["self", "name"] (spNeedNew C T W)
  bn : Binds K fdn ["self", "name"] []
structure TxtC (K : PySem.W.Frag) (mg : Str → Option Value) : Prop where
  tup : mg "tuple" = none
  mt : ∃ t, mg "MOST_TAKEN" = some (.int 4 t)
  mm : ∃ t, mg "MOST_MAKERS" = some (.int 6 t)
  mkd : ∃ t, mg "MOST_KINDS" = some (.int 8 t)
  mw : ∃ t, mg "MOST_WORKS" = some (.int 16 t)
abbrev nams {β : Type} (l : List (Str × β)) : List Str := l.map (·.1)
/-- a maker of the kind kd, good -/
def spAddMaker (C T W : Addr) : Sp := fun vs H Q _ => ∃ (g : Addr) (kd f : Str) (t l : Addr) (tks : List Str) (A : GA) (ks : List (Str × List Str)) (ms : List Str) (ts : List (Str × List Str)) (gs : List (Str × Str)) (fs : List (Str × V)) (rs : List (Str × List V)),
  vs = [.ref g, .str kd, .ref t] ∧ Bld C g A H (ks ++ [(kd, ms)]) ts gs fs rs ∧ H t = some (.tup [.str f, .ref l]) ∧ H l = some (.lst (txs tks)) ∧ tks.length ≤ 4 ∧ isNameB f = true ∧ (nams (ks ++ [(kd, ms)])).Nodup ∧ f ∉ nams (ks ++ [(kd, ms)]) ∧ f ∉ nams ts ∧ f ∉ nams gs ∧
  (∀ x ∈ tks, x = kd ∨ ∃ m ∈ ks, m.1 = x ∧ m.2 ≠ []) ∧ ms.length ≤ 100 ∧ ks.length ≤ 100 ∧ ts.length ≤ 1000 ∧ gs.length ≤ 1000 ∧ TabG H T ∧
  ∀ H', Bld C g A H' (ks ++ [(kd, ms ++ [f])]) (ts ++ [(f, tks)]) (gs ++ [(f, kd)]) fs rs → KeptG A T H H' → TabG H' T → Q .non H'
theorem has_off {α : Type} {f : α → Str} {rel : V → α → Prop} {kvs : List (Key × V)} {xs : List α} {a : Str} (h : KvR f rel kvs xs) (n : a ∉ xs.map f) : has kvs (some a) = false := by
  show (valV kvs (Sum.inr a)).isSome = false
  rw [h.none fun x hx e => n (by rw [← e]; exact List.mem_map.mpr ⟨x, hx, rfl⟩)]
  rfl
/-- all stays but at S -/
def Kb (S : List Addr) (H H' : Hp) : Prop := ∀ b o, H b = some o → b ∉ S → H' b = some o
theorem Kb.trans {S : List Addr} {H H1 H2 : Hp} (a : Kb S H H1) (b : Kb S H1 H2) : Kb S H H2 := fun x o e h => b x o (a x o e h) h
theorem kb_new {S : List Addr} {H : Hp} {p : Addr} {o : HO} (h : H p = none) : Kb S H (upd H p o) := fun b u e _ => by rw [upd_ne (ne_of_none e h)]; exact e
theorem kb_upd {S : List Addr} {H : Hp} {p : Addr} {o : HO} (h : p ∈ S) : Kb S H (upd H p o) := fun b u e hb => by rw [upd_ne (fun z => hb (by rw [z]; exact h))]; exact e
theorem kb_refl {S : List Addr} {H : Hp} : Kb S H H := fun _ _ e _ => e
/-- the ground behind _add_maker's three stores -/
theorem bld_maker {C g : Addr} {A : GA} {H1 H6 : Hp} {ks : List (Str × List Str)} {kd fn : Str} {ms tks : List Str} {ts : List (Str × List Str)} {gs : List (Str × Str)} {fs : List (Str × V)} {rs : List (Str × List V)} {d1 d2 d3 : List (Key × V)} {tt r : Addr}
    (B : Bld C g A H1 (ks ++ [(kd, ms)]) ts gs fs rs) (e1 : H1 A.m = some (.dK d1)) (h1 : KvR (·.1) (fun v x => tupS H1 v x.2) d1 (ks ++ [(kd, ms)])) (e2 : H1 A.t = some (.dK d2)) (h2 : KvR (·.1) (fun v x => tupS H1 v x.2) d2 ts)
    (e3 : H1 A.v = some (.dK d3)) (h3 : KvR (·.1) (fun v x => v = .str x.2) d3 gs) (hnd : (nams (ks ++ [(kd, ms)])).Nodup) (n2 : fn ∉ nams ts) (n3 : fn ∉ nams gs) (htt : H1 tt = none)
    (k4 : Kb [] (upd (upd (upd H1 tt (.tup (txs tks))) A.t (.dK (putK d2 (.inr fn) (.ref tt)))) A.v (.dK (putK d3 (.inr fn) (.str kd)))) H6) (hr : H6 r = some (.tup (txs (ms ++ [fn])))) :
    Bld C g A (upd H6 A.m (.dK (putK d1 (.inr kd) (.ref r)))) (ks ++ [(kd, ms ++ [fn])]) (ts ++ [(fn, tks)]) (gs ++ [(fn, kd)]) fs rs ∧ Kb [A.m, A.t, A.v] H1 (upd H6 A.m (.dK (putK d1 (.inr kd) (.ref r)))) := by
  have nd := B.nd
  simp only [List.nodup_cons, List.mem_cons, List.not_mem_nil, or_false, not_or, List.nodup_nil, not_false_eq_true, and_true] at nd
  obtain ⟨⟨mt, mv, ma, mr⟩, ⟨tv, ta, tr⟩, ⟨va, vr⟩, ar⟩ := nd
  have ktt : ∀ b o, H1 b = some o → b ≠ tt := fun b o e => ne_of_none e htt
  generalize hH4 : upd (upd (upd H1 tt (.tup (txs tks))) A.t (.dK (putK d2 (.inr fn) (.ref tt)))) A.v (.dK (putK d3 (.inr fn) (.str kd))) = H4 at k4
  generalize hH7 : upd H6 A.m (.dK (putK d1 (.inr kd) (.ref r))) = H7
  have k7 : Kb [A.m] H6 H7 := by rw [← hH7]; exact kb_upd (by simp)
  have k47 : Kb [A.m] H4 H7 := fun b o e hb => k7 b o (k4 b o e (by simp)) hb
  have k14 : Kb [A.m, A.t, A.v] H1 H4 := by
    rw [← hH4]
    exact ((kb_new htt).trans (kb_upd (by simp))).trans (kb_upd (by simp))
  have k17 : Kb [A.m, A.t, A.v] H1 H7 := k14.trans fun b o e hb => k47 b o e fun z => hb (by simp only [List.mem_singleton] at z; simp [z])
  have m7 : H7 A.m = some (.dK (putK d1 (.inr kd) (.ref r))) := by rw [← hH7]; exact upd_same
  have t4 : H4 A.t = some (.dK (putK d2 (.inr fn) (.ref tt))) := by rw [← hH4, upd_ne tv]; exact upd_same
  have v4 : H4 A.v = some (.dK (putK d3 (.inr fn) (.str kd))) := by rw [← hH4]; exact upd_same
  have tt4 : H4 tt = some (.tup (txs tks)) := by
    rw [← hH4, upd_ne (ktt _ _ e3).symm, upd_ne (ktt _ _ e2).symm]; exact upd_same
  have t7 := k47 _ _ t4 (by simpa using (fun z => mt z.symm))
  have v7 := k47 _ _ v4 (by simpa using (fun z => mv z.symm))
  have tt7 := k47 _ _ tt4 (by simpa using (ktt _ _ e1).symm)
  have notd : ∀ b o, H1 b = some o → (∀ d, o ≠ .dK d) → b ∉ [A.m, A.t, A.v] := fun b o e hd hb => by
    simp only [List.mem_cons, List.not_mem_nil, or_false] at hb
    rcases hb with z | z | z
    · rw [z, e1] at e; cases e; exact hd _ rfl
    · rw [z, e2] at e; cases e; exact hd _ rfl
    · rw [z, e3] at e; cases e; exact hd _ rfl
  have tp : ∀ v l, tupS H1 v l → tupS H7 v l := fun v l ⟨t, e, ht⟩ => ⟨t, e, k17 _ _ ht (notd _ _ ht (by intro d z; cases z))⟩
  have r7 : H7 r = some (.tup (txs (ms ++ [fn]))) := k7 _ _ hr (by
    intro z
    simp only [List.mem_singleton] at z
    have q : ∃ d, H6 A.m = some (.dK d) := by
      have q4 : H4 A.m = some (.dK d1) := by
        rw [← hH4, upd_ne mv, upd_ne mt, upd_ne (ktt _ _ e1)]; exact e1
      exact ⟨d1, k4 _ _ q4 (by simp)⟩
    obtain ⟨d, q⟩ := q
    rw [z, q] at hr; cases hr)
  obtain ⟨kvs', v0, ek, hk1, _⟩ := h1.split
  have off : valV kvs' (Sum.inr kd) = none := hk1.none fun x hx e => by
    rw [show nams (ks ++ [(kd, ms)]) = nams ks ++ [kd] by simp, List.nodup_append] at hnd
    exact hnd.2.2 x.1 (List.mem_map.mpr ⟨x, hx, rfl⟩) kd (by simp) e
  have off2 : valV d2 (Sum.inr fn) = none := h2.none fun x hx e => n2 (by rw [← e]; exact List.mem_map.mpr ⟨x, hx, rfl⟩)
  have off3 : valV d3 (Sum.inr fn) = none := h3.none fun x hx e => n3 (by rw [← e]; exact List.mem_map.mpr ⟨x, hx, rfl⟩)
  obtain ⟨d4, e4, h4⟩ := B.fs
  obtain ⟨d5, e5, h5⟩ := B.rs
  refine ⟨⟨B.nd, k17 _ _ B.g0 (notd _ _ B.g0 (by intro d z; cases z)), ⟨_, m7, ?_⟩, ⟨_, t7, ?_⟩, ⟨_, v7, ?_⟩, ⟨d4, k17 _ _ e4 (by simp only [List.mem_cons, List.not_mem_nil, or_false, not_or]; exact ⟨fun z => ma z.symm, fun z => ta z.symm, fun z => va z.symm⟩), h4⟩,
    ⟨d5, k17 _ _ e5 (by simp only [List.mem_cons, List.not_mem_nil, or_false, not_or]; exact ⟨fun z => mr z.symm, fun z => tr z.symm, fun z => vr z.symm⟩), h5.mono fun v x ⟨t, e, ht⟩ => ⟨t, e, k17 _ _ ht (notd _ _ ht (by intro d z; cases z))⟩⟩⟩, k17⟩
  · rw [ek]
    rw [putK_last off]
    exact (hk1.mono fun v x => tp v _).snoc (x := (kd, ms ++ [fn])) ⟨r, rfl, r7⟩
  · rw [putK_new off2]
    exact (h2.mono fun v x => tp v _).snoc (x := (fn, tks)) ⟨tt, rfl, tt7⟩
  · rw [putK_new off3]
    exact h3.snoc (x := (fn, kd)) rfl
section
variable {P : Program} {w : World} {K : PySem.W.Frag} {mg : Str → Option Value} {base : Heap} {f C T W : Addr} {fd : FuncData}
theorem sc2 : FnScope ["self", "kind", "told", "f", "takes", "taken"] ["self", "kind", "told"] (defScope (met 2)) := ⟨rfl, rfl, rfl, by decide +kernel, rfl, by decide +kernel, by decide +kernel⟩
theorem ok_addMaker (F : Fun K "_add_maker" "Ground._add_maker" (met 2) f fd) (X : TxtG K mg C) (X2 : TxtC K mg) (Df : Defs P w K mg base T W) (M : Mets P w K mg base C T W) : FnOk P w K mg base CX0 5 f fd ["self", "kind", "told"] (spAddMaker C T W) := by
  refine F.ok sc2 (fun vs H Q E h => ?_) (fun cdv A0 outer s H vs Q E hr h => ?_)
  · obtain ⟨g, kd, f, t, l, tks, A, ks, ms, ts, gs, fs, rs, rfl, _⟩ := h
    rfl
  obtain ⟨g, kd, fn, t, l, tks, A, ks, ms, ts, gs, fs, rs, rfl, B, ht, hl, hn, hnm, hnd, n1, n2, n3, htk, z1, z4, z2, z3, hT, k⟩ := h
  obtain ⟨tmt, emt⟩ := X2.mt
  refine ⟨_, pss_cons (ps_expr (pe_call Df.need (hr.mono (by decide)) rfl Df.mneed Df.kneed Df.bneed .nil pass0 (pa_cons (pe_call Df.isr (hr.mono (by decide)) rfl Df.misr Df.kisr Df.bisr .nil pass0 (pa_cons (pv 2) (pa_cons pe_int pa_nil))) (pa_cons pe_str pa_nil))))
    (pss_cons (ps_asg (pv 2) (pg_tup rfl (pgs_cons (pg_name (i := 3) sc2.nd rfl (Or.inl rfl)) (pgs_cons (pg_name (i := 4) sc2.nd rfl (Or.inl rfl)) pgs_nil))))
    (pss_cons (ps_expr (pe_meth (pv 0) X.cl M.mn M.new hr M.bn .nil pass0 (pa_cons (pv 3) pa_nil)))
    (pss_cons (ps_expr (pe_call Df.need (hr.mono (by decide)) rfl Df.mneed Df.kneed Df.bneed .nil pass0 (pa_cons (pe_call Df.isl (hr.mono (by decide)) rfl Df.misl Df.kisl Df.bisl .nil pass0 (pa_cons (pv 4) (pa_cons (pe_glob (v := .int 4) rfl emt ⟨_, rfl⟩) pa_nil))) (pa_cons pe_str pa_nil))))
    (pss_cons (ps_for PassesOwn.never rfl (pi_list (pv 4)) (pg_name (i := 5) sc2.nd rfl (Or.inl rfl))
      (pss_cons (ps_expr (pe_call Df.need (hr.mono (by decide)) rfl Df.mneed Df.kneed Df.bneed .nil pass0 (pa_cons (pe_meth (pv 0) X.cl M.mK M.kind (hr.mono (by decide)) M.bk .nil pass0 (pa_cons (pv 5) pa_nil)) (pa_cons pe_str pa_nil))))
      (pss_one (ps_expr (pe_call Df.need (hr.mono (by decide)) rfl Df.mneed Df.kneed Df.bneed .nil pass0 (pa_cons (pe_or (pe_cmpR op_eq (pv 5) (pv 1) (nomark _)) (pe_one (pe_not (pe_meth (pv 0) X.cl M.mo M.opn (hr.mono (by decide)) M.bo .nil pass0 (pa_cons (pv 5) pa_nil))))) (pa_cons pe_str pa_nil)))))))
    (pss_cons (ps_dput (hu_of hr) (pe_fld (pv 0) rfl) (pv 3) (pe_callTy call_tuple_of (by rfl) X2.tup boot_tupT (pa_cons (pv 4) pa_nil)) rfl)
    (pss_cons (ps_dput (hu_of hr) (pe_fld (pv 0) rfl) (pv 3) (pv 1) rfl)
    (pss_one (ps_daug (hu_of hr) (pe_fld (pv 0) rfl) (pv 1) (pe_tup (pa_cons (pv 3) pa_nil)) in_catA (fun _ _ _ => rfl))))))))), ?_⟩
  refine ⟨_, rfl, t, _, 2, rfl, ht, ?_⟩
  refine ⟨_, rfl, ?_⟩
  refine ⟨_, rfl, t, _, rfl, SqT.of ht, rfl, _, _, rfl, _, _, rfl, rfl, ?_⟩
  obtain ⟨D, G0, r1, r2, r3, r4, r5⟩ := B.at
  refine ⟨_, rfl, g, A.dx, _, rfl, B.g0, gf_no (by decide +kernel), _, rfl, g, fn, D, rfl, G0, hnm, has_off r1 n1, has_off r2 n2, hT, fun H1 h1 => ?_⟩
  have B1 := B.tab h1 hT
  have hT1 : TabG H1 T := h1.1
  have hl1 : H1 l = some (.lst (txs tks)) := tget h1 hT hl (by intro q z; cases z)
  have hlen : decide (((txs tks).length : Int) ≤ 4) = true := decide_eq_true (by rw [List.length_map]; omega)
  refine ⟨_, rfl, l, _, 4, rfl, hl1, ?_⟩
  rw [hlen]
  refine ⟨_, rfl, ?_⟩
  obtain ⟨D1, G1, q1, q2, q3, q4, q5⟩ := B1.at
  have nd1 : ((ks ++ [(kd, ms)]).map (·.1)).Nodup := hnd
  refine ⟨_, rfl, l, rfl, ⟨_, SqL.of hl1⟩, for_list (xs := txs tks) (fun i σ' H' => H' = H1 ∧ ∃ o, σ' = [some (V.ref g), some (V.str kd), some (V.ref t), some (V.str fn), some (V.ref l), o]) ⟨rfl, _, rfl⟩ (fun i σ' H' _ p => by rw [p.1]; exact SqL.of hl1) (fun i x σ' H' hx p => ?_) (fun σ' H' p => ?_)⟩
  · obtain ⟨rfl, o, rfl⟩ := p
    obtain ⟨y, hy, rfl⟩ : ∃ y, tks[i]? = some y ∧ x = V.str y := by
      rw [List.getElem?_map] at hx
      cases e : tks[i]? with
      | none => rw [e] at hx; cases hx
      | some y => rw [e] at hx; exact ⟨y, rfl, (Option.some.inj hx).symm⟩
    have hmem : y ∈ tks := List.mem_of_getElem? hy
    have hk : D1.isKind (some y) = true ∧ (y ≠ kd → OpenIs K H' D1 (some y) false) := by
      rcases htk y hmem with rfl | ⟨m, hm, e, hne⟩
      · obtain ⟨v, hv, _⟩ := q1.val (x := (y, ms)) (by simp) nd1
        refine ⟨?_, fun z => absurd rfl z⟩
        show (valV D1.ms (Sum.inr y)).isSome = true
        rw [show valV D1.ms (Sum.inr y) = some v from hv]
        rfl
      · obtain ⟨v, hv, tt, ev, htt⟩ := q1.val (x := m) (List.mem_append_left _ hm) nd1
        rw [e] at hv
        have hK : D1.isKind (some y) = true := by
          show (valV D1.ms (Sum.inr y)).isSome = true
          rw [hv]
          rfl
        refine ⟨hK, fun _ => .inl ⟨hK, tt, _, by rw [hv, ev], SqT.of htt, ?_⟩⟩
        cases hm2 : m.2 with
        | nil => exact absurd hm2 hne
        | cons a b => rfl
    refine ⟨_, rfl, g, A.dx, _, rfl, B1.g0, gf_no (by decide +kernel), _, rfl, g, .str y, some y, D1, rfl, G1, rfl, ?_⟩
    rw [hk.1]
    refine ⟨_, rfl, ?_⟩
    refine ⟨_, rfl, _, rfl, rfl, _, rfl, ?_⟩
    by_cases e : y = kd
    · rw [if_pos (by rw [e]; simp)]
      exact ⟨_, rfl, rfl, _, rfl⟩
    · rw [if_neg (by simpa using e)]
      refine ⟨_, rfl, g, A.dx, _, rfl, B1.g0, gf_no (by decide +kernel), _, rfl, g, .str y, some y, D1, false, rfl, G1, rfl, hk.2 e, _, rfl, ?_⟩
      exact ⟨_, rfl, rfl, _, rfl⟩
  · obtain ⟨rfl, o, rfl⟩ := p
    obtain ⟨d1, e1, k1⟩ := B1.ms
    obtain ⟨d2, e2, k2⟩ := B1.ts
    obtain ⟨d3, e3, k3⟩ := B1.gs
    have ndd := B1.nd
    simp only [List.nodup_cons, List.mem_cons, List.not_mem_nil, or_false, not_or, List.nodup_nil, not_false_eq_true, and_true] at ndd
    obtain ⟨⟨nmt, nmv, _, _⟩, ⟨ntv, _, _⟩, _⟩ := ndd
    obtain ⟨v0, hv0, mt, ev0, hmt⟩ := k1.val (x := (kd, ms)) (by simp) nd1
    have len1 : d1.length < sizeLine := small1000 (by rw [k1.length, List.length_append]; show ks.length + 1 ≤ 1000; omega)
    have len2 : d2.length < sizeLine := small1000 (by rw [k2.length]; exact z2)
    have len3 : d3.length < sizeLine := small1000 (by rw [k3.length]; exact z3)
    refine ⟨_, rfl, l, txs tks, rfl, .inl ⟨SqL.of hl1, fun tt htt => ?_⟩⟩
    have g2 : upd H' tt (.tup (txs tks)) g = some (.ins C A.dx (gf A.m A.t A.v A.a A.r)) := by rw [upd_ne (ne_of_none B1.g0 htt)]; exact B1.g0
    have t2 : upd H' tt (.tup (txs tks)) A.t = some (.dK d2) := by rw [upd_ne (ne_of_none e2 htt)]; exact e2
    have v2 : upd H' tt (.tup (txs tks)) A.v = some (.dK d3) := by rw [upd_ne (ne_of_none e3 htt)]; exact e3
    have m2 : upd H' tt (.tup (txs tks)) A.m = some (.dK d1) := by rw [upd_ne (ne_of_none e1 htt)]; exact e1
    have mt2 : upd H' tt (.tup (txs tks)) mt = some (.tup (txs ms)) := by rw [upd_ne (ne_of_none hmt htt)]; exact hmt
    refine ⟨_, rfl, g, C, A.dx, _, _, rfl, g2, X.cl, X.n2, rfl, _, rfl, A.t, _, rfl, DPut.k (k := Sum.inr fn) t2 len2, ?_⟩
    have g3 : (upd (upd H' tt (.tup (txs tks))) A.t (.dK (putK d2 (Sum.inr fn) (.ref tt)))) g = some (.ins C A.dx (gf A.m A.t A.v A.a A.r)) := by rw [upd_ne (ne_of g2 t2 (by intro z; cases z))]; exact g2
    have v3 : (upd (upd H' tt (.tup (txs tks))) A.t (.dK (putK d2 (Sum.inr fn) (.ref tt)))) A.v = some (.dK d3) := by rw [upd_ne (fun z => ntv z.symm)]; exact v2
    have m3 : (upd (upd H' tt (.tup (txs tks))) A.t (.dK (putK d2 (Sum.inr fn) (.ref tt)))) A.m = some (.dK d1) := by rw [upd_ne nmt]; exact m2
    have mt3 : (upd (upd H' tt (.tup (txs tks))) A.t (.dK (putK d2 (Sum.inr fn) (.ref tt)))) mt = some (.tup (txs ms)) := by rw [upd_ne (ne_of mt2 t2 (by intro z; cases z))]; exact mt2
    refine ⟨_, rfl, _, rfl, g, C, A.dx, _, _, rfl, g3, X.cl, X.n3, rfl, _, rfl, A.v, _, rfl, DPut.k (k := Sum.inr fn) v3 len3, ?_⟩
    generalize hH4 : upd (upd (upd H' tt (.tup (txs tks))) A.t (.dK (putK d2 (Sum.inr fn) (.ref tt)))) A.v (.dK (putK d3 (Sum.inr fn) (.str kd))) = H4
    have g4 : H4 g = some (.ins C A.dx (gf A.m A.t A.v A.a A.r)) := by rw [← hH4, upd_ne (ne_of g3 v3 (by intro z; cases z))]; exact g3
    have m4 : H4 A.m = some (.dK d1) := by rw [← hH4, upd_ne nmv]; exact m3
    have mt4 : H4 mt = some (.tup (txs ms)) := by rw [← hH4, upd_ne (ne_of mt3 v3 (by intro z; cases z))]; exact mt3
    have dg := DGet.k (k := Sum.inr kd) m4
    rw [show valV d1 (Sum.inr kd) = some v0 from hv0, ev0] at dg
    refine ⟨_, rfl, g, C, A.dx, _, _, rfl, g4, X.cl, X.n1, rfl, _, rfl, A.m, .ref mt, rfl, dg, _, rfl, (by show 1 ≤ sizeLine; decide), fun p hp => ?_⟩
    have mt5 : upd H4 p (.tup [V.str fn]) mt = some (.tup (txs ms)) := by rw [upd_ne (ne_of_none mt4 hp)]; exact mt4
    have m5 : upd H4 p (.tup [V.str fn]) A.m = some (.dK d1) := by rw [upd_ne (ne_of_none m4 hp)]; exact m4
    have fin : ∀ (H6 : Hp) (r : Addr), Kb [] H4 H6 → H6 r = some (.tup (txs (ms ++ [fn]))) → Q .non (upd H6 A.m (.dK (putK d1 (Sum.inr kd) (.ref r)))) := fun H6 r kk hr => by
      obtain ⟨b1, b2⟩ := bld_maker B1 e1 k1 e2 k2 e3 k3 hnd n2 n3 htt (by rw [hH4]; exact kk) hr
      refine k _ b1 ((KeptG.tab h1).trans fun b o e q1 q2 q3 q4 q5 q6 => b2 b o e (by simp only [List.mem_cons, List.not_mem_nil, or_false, not_or]; exact ⟨q1, q2, q3⟩)) ?_
      obtain ⟨ps, hps, htr⟩ := hT1
      refine ⟨ps, b2 _ _ hps ?_, htr⟩
      intro z
      simp only [List.mem_cons, List.not_mem_nil, or_false] at z
      rcases z with z | z | z
      · rw [z, e1] at hps; cases hps
      · rw [z, e2] at hps; cases hps
      · rw [z, e3] at hps; cases hps
    refine ⟨mt, p, txs ms, [V.str fn], rfl, rfl, SqT.of mt5, SqT.of upd_same, (by rw [List.length_map]; show ms.length + 1 ≤ sizeLine; exact Nat.le_of_lt (small1000 (by omega))), fun e => ?_, fun _ e => (by cases e), fun _ _ q hq => ?_⟩
    · refine ⟨_, DPut.k (k := Sum.inr kd) m5 len1, fin _ p (kb_new hp) ?_⟩
      rw [upd_same]
      have : ms = [] := List.map_eq_nil_iff.mp e
      rw [this]
      rfl
    · have m6 : upd (upd H4 p (.tup [V.str fn])) q (.tup (txs ms ++ [V.str fn])) A.m = some (.dK d1) := by rw [upd_ne (ne_of_none m5 hq)]; exact m5
      refine ⟨_, DPut.k (k := Sum.inr kd) m6 len1, fin _ q ((kb_new hp).trans (kb_new hq)) ?_⟩
      rw [upd_same]
      simp
end
end GN

/-! GN7: _add_kind (of what is good). -/
namespace GN
open PySem PySem.Spec PyProof.Rows L2 GenW GxR NdefX GX
/-- a list's items, one by one -/
def LsR {α : Type} (rel : V → α → Prop) : List V → List α → Prop
  | [], [] => True
  | v :: r, x :: xs => rel v x ∧ LsR rel r xs
  | _, _ => False
theorem LsR.mono {α : Type} {rel rel' : V → α → Prop} (h : ∀ v x, rel v x → rel' v x) : ∀ {vs : List V} {xs : List α}, LsR rel vs xs → LsR rel' vs xs
  | [], [], _ => trivial
  | _ :: _, _ :: _, ⟨a, b⟩ => ⟨h _ _ a, b.mono h⟩
  | [], _ :: _, z => z.elim
  | _ :: _, [], z => z.elim
theorem LsR.length {α : Type} {rel : V → α → Prop} : ∀ {vs : List V} {xs : List α}, LsR rel vs xs → vs.length = xs.length
  | [], [], _ => rfl
  | _ :: _, _ :: _, ⟨_, b⟩ => congrArg (· + 1) b.length
  | [], _ :: _, z => z.elim
  | _ :: _, [], z => z.elim
theorem LsR.get {α : Type} {rel : V → α → Prop} : ∀ {vs : List V} {xs : List α} {i : Nat} {v : V}, LsR rel vs xs → vs[i]? = some v → ∃ x, xs[i]? = some x ∧ rel v x
  | [], [], _, _, _, h => by simp at h
  | a :: _, x :: _, 0, v, ⟨r, _⟩, h => by
    have : a = v := by simpa using h
    exact ⟨x, rfl, this ▸ r⟩
  | _ :: _, _ :: _, i + 1, v, ⟨_, r⟩, h => r.get (i := i) (by simpa using h)
  | [], _ :: _, _, _, z, _ => z.elim
  | _ :: _, [], _, _, z, _ => z.elim
/-- a maker as it is handed in -/
def MkAt (H : Hp) (v : V) (x : Str × List Str) : Prop := ∃ m l, v = .ref m ∧ H m = some (.tup [.str x.1, .ref l]) ∧ H l = some (.lst (txs x.2))
/-- the addresses that change: the ground's dicts, tables -/
def KeptK (A : GA) (Ts : List Addr) (H H' : Hp) : Prop := ∀ b o, H b = some o → b ≠ A.m → b ≠ A.t → b ≠ A.v → b ≠ A.a → b ≠ A.r → b ∉ Ts → H' b = some o
theorem KeptK.trans {A : GA} {Ts : List Addr} {H H1 H2 : Hp} (a : KeptK A Ts H H1) (b : KeptK A Ts H1 H2) : KeptK A Ts H H2 := fun x o e h1 h2 h3 h4 h5 h6 => b x o (a x o e h1 h2 h3 h4 h5 h6) h1 h2 h3 h4 h5 h6
theorem KeptG.toK {A : GA} {T : Addr} {Ts : List Addr} {H H1 : Hp} (h : KeptG A T H H1) (hT : T ∈ Ts) : KeptK A Ts H H1 := fun b o e h1 h2 h3 h4 h5 h6 => h b o e h1 h2 h3 h4 h5 fun z => h6 (by rw [z]; exact hT)
theorem KeptK.refl {A : GA} {Ts : List Addr} {H : Hp} : KeptK A Ts H H := fun _ _ e _ _ _ _ _ _ => e
theorem KeptK.new {A : GA} {Ts : List Addr} {p : Addr} {H : Hp} {o : HO} (h : H p = none) : KeptK A Ts H (upd H p o) := fun b u e _ _ _ _ _ _ => by rw [upd_ne (ne_of_none e h)]; exact e
section
variable {C g : Addr} {A : GA} {Ts : List Addr} {H H' : Hp} {ks ts : List (Str × List Str)} {gs : List (Str × Str)} {fs : List (Str × V)} {rs : List (Str × List V)}
/-- what is neither a dict nor a table stays -/
theorem KeptK.get (h : KeptK A Ts H H') (B : Bld C g A H ks ts gs fs rs) (hT : ∀ T ∈ Ts, TabG H T) {b : Addr} {o : HO} (e : H b = some o) (hd : ∀ d, o ≠ .dK d) (ht : ∀ q, o ≠ .tbl q) : H' b = some o := by
  obtain ⟨d1, e1, _⟩ := B.ms
  obtain ⟨d2, e2, _⟩ := B.ts
  obtain ⟨d3, e3, _⟩ := B.gs
  obtain ⟨d4, e4, _⟩ := B.fs
  obtain ⟨d5, e5, _⟩ := B.rs
  refine h b o e (fun z => ?_) (fun z => ?_) (fun z => ?_) (fun z => ?_) (fun z => ?_) fun z => ?_
  · rw [z, e1] at e; cases e; exact hd _ rfl
  · rw [z, e2] at e; cases e; exact hd _ rfl
  · rw [z, e3] at e; cases e; exact hd _ rfl
  · rw [z, e4] at e; cases e; exact hd _ rfl
  · rw [z, e5] at e; cases e; exact hd _ rfl
  · obtain ⟨ps, hp, _⟩ := hT b z
    rw [hp] at e; cases e; exact ht _ rfl
theorem KeptK.mkAt (h : KeptK A Ts H H') (B : Bld C g A H ks ts gs fs rs) (hT : ∀ T ∈ Ts, TabG H T) {v : V} {x : Str × List Str} (m : MkAt H v x) : MkAt H' v x := by
  obtain ⟨a, l, e, h1, h2⟩ := m
  exact ⟨a, l, e, h.get B hT h1 (by intro d z; cases z) (by intro d z; cases z), h.get B hT h2 (by intro d z; cases z) (by intro d z; cases z)⟩
/-- a table that isn't among those that change stays one -/
theorem KeptG.tabG {T T2 : Addr} (h : KeptG A T H H') (B : Bld C g A H ks ts gs fs rs) (hT2 : TabG H T2) (n : T2 ≠ T) : TabG H' T2 := by
  obtain ⟨ps, hp, ht⟩ := hT2
  obtain ⟨d1, e1, _⟩ := B.ms
  obtain ⟨d2, e2, _⟩ := B.ts
  obtain ⟨d3, e3, _⟩ := B.gs
  obtain ⟨d4, e4, _⟩ := B.fs
  obtain ⟨d5, e5, _⟩ := B.rs
  refine ⟨ps, h T2 _ hp (fun z => ?_) (fun z => ?_) (fun z => ?_) (fun z => ?_) (fun z => ?_) n, ht⟩
  · rw [z, e1] at hp; cases hp
  · rw [z, e2] at hp; cases hp
  · rw [z, e3] at hp; cases hp
  · rw [z, e4] at hp; cases hp
  · rw [z, e5] at hp; cases hp
/-- a new kind, none of its makers yet -/
theorem bld_kind {kd : Str} {p : Addr} {d1 : List (Key × V)} (B : Bld C g A H ks ts gs fs rs) (e1 : H A.m = some (.dK d1)) (h1 : KvR (·.1) (fun v x => tupS H v x.2) d1 ks) (n : kd ∉ nams ks) (hp : H p = none) :
    Bld C g A (upd (upd H p (.tup [])) A.m (.dK (putK d1 (.inr kd) (.ref p)))) (ks ++ [(kd, [])]) ts gs fs rs ∧ KeptK A Ts H (upd (upd H p (.tup [])) A.m (.dK (putK d1 (.inr kd) (.ref p)))) := by
  have nd := B.nd
  simp only [List.nodup_cons, List.mem_cons, List.not_mem_nil, or_false, not_or, List.nodup_nil, not_false_eq_true, and_true] at nd
  obtain ⟨⟨mt, mv, ma, mr⟩, _⟩ := nd
  obtain ⟨d2, e2, h2⟩ := B.ts
  obtain ⟨d3, e3, h3⟩ := B.gs
  obtain ⟨d4, e4, h4⟩ := B.fs
  obtain ⟨d5, e5, h5⟩ := B.rs
  have k : Kb [A.m] H (upd (upd H p (.tup [])) A.m (.dK (putK d1 (.inr kd) (.ref p)))) := (kb_new hp).trans (kb_upd (by simp))
  generalize hH : upd (upd H p (.tup [])) A.m (.dK (putK d1 (.inr kd) (.ref p))) = H2 at k
  have m2 : H2 A.m = some (.dK (putK d1 (.inr kd) (.ref p))) := by rw [← hH]; exact upd_same
  have p2 : H2 p = some (.tup []) := by rw [← hH, upd_ne (ne_of_none e1 hp).symm]; exact upd_same
  have tp : ∀ v l, tupS H v l → tupS H2 v l := fun v l ⟨t, e, ht⟩ => ⟨t, e, k _ _ ht (by
    intro z
    simp only [List.mem_singleton] at z
    rw [z, e1] at ht; cases ht)⟩
  have off : valV d1 (Sum.inr kd) = none := h1.none fun x hx e => n (by rw [← e]; exact List.mem_map.mpr ⟨x, hx, rfl⟩)
  refine ⟨⟨B.nd, k _ _ B.g0 (by intro z; simp only [List.mem_singleton] at z; have q := B.g0; rw [z, e1] at q; cases q), ⟨_, m2, ?_⟩, ⟨d2, k _ _ e2 (by simpa using fun z => mt z.symm), h2.mono fun v x => tp v _⟩, ⟨d3, k _ _ e3 (by simpa using fun z => mv z.symm), h3⟩,
    ⟨d4, k _ _ e4 (by simpa using fun z => ma z.symm), h4⟩, ⟨d5, k _ _ e5 (by simpa using fun z => mr z.symm), h5.mono fun v x ⟨t, e, ht⟩ => ⟨t, e, k _ _ ht (by intro z; simp only [List.mem_singleton] at z; rw [z, e1] at ht; cases ht)⟩⟩⟩, fun b o e q1 _ _ _ _ _ => k b o e (by simpa using q1)⟩
  rw [putK_new off]
  exact (h1.mono fun v x => tp v _).snoc (x := (kd, [])) ⟨p, rfl, p2⟩
end
end GN

/-! GN8: _add_kind (of what is good). -/
namespace GN
open PySem PySem.Spec PyProof.Rows L2 GenW GxR NdefX GX
/-- a kind with its makers is good behind these -/
structure GoodK (ks ts : List (Str × List Str)) (gs : List (Str × Str)) (kd : Str) (mks : List (Str × List Str)) : Prop where
  name : isNameB kd = true
  many : mks.length ≤ 6
  mname : ∀ m ∈ mks, isNameB m.1 = true
  mtake : ∀ m ∈ mks, m.2.length ≤ 4 ∧ ∀ x ∈ m.2, x = kd ∨ ∃ k ∈ ks, k.1 = x ∧ k.2 ≠ []
  own : mks ≠ [] → ∃ m ∈ mks, kd ∉ m.2
  ndk : (nams ks ++ [kd]).Nodup
  nkt : kd ∉ nams ts
  ndm : (nams ts ++ nams mks).Nodup
  ndg : ∀ m ∈ mks, m.1 ∉ nams gs
  nmk : ∀ m ∈ mks, m.1 ∉ nams ks ++ [kd]
  lk : ks.length ≤ 100
  lt : ts.length ≤ 900
  lg : gs.length ≤ 900
def gvs (kd : Str) (mks : List (Str × List Str)) : List (Str × Str) := mks.map fun m => (m.1, kd)
def spAddKind (C T T2 : Addr) : Sp := fun vs H Q _ => ∃ (g : Addr) (kd : Str) (t l : Addr) (vl : List V) (mks : List (Str × List Str)) (A : GA) (ks ts : List (Str × List Str)) (gs : List (Str × Str)) (fs : List (Str × V)) (rs : List (Str × List V)),
  vs = [.ref g, .ref t] ∧ Bld C g A H ks ts gs fs rs ∧ H t = some (.tup [.str kd, .ref l]) ∧ H l = some (.lst vl) ∧ LsR (MkAt H) vl mks ∧ GoodK ks ts gs kd mks ∧ TabG H T ∧ TabG H T2 ∧ T2 ≠ T ∧
  ∀ H', Bld C g A H' (ks ++ [(kd, nams mks)]) (ts ++ mks) (gs ++ gvs kd mks) fs rs → KeptK A [T, T2] H H' → TabG H' T → TabG H' T2 → Q .non H'
def scopeG : Scope := { kind := .function, names := [(".0", .local), ("f", .local), ("kind", .free), ("self", .free)], isGenerator := true, isCoroutine := false }
theorem el_kind {X : Cx} {A1 : Around} {s1 : Shared} {H1 : Hp} {C1 : Addr} {cd1 : Value} {fp1 : List Addr} {p1 p2 p3 p4 p5 p6 : Pos} (h0 : X.N[0]? = some ("self" : Str)) (h2 : X.N[2]? = some ("kind" : Str)) (h5 : X.N[5]? = some ("f" : Str)) (rm : Room 3 (A1.deeper (gEnv X scopeG C1 cd1))) :
    PE (gx X A1 s1 H1 (gEnv X scopeG C1 cd1) fp1) (.Compare (.Name "kind" p1) [.NotIn] [.Subscript (.Attribute (.Name "self" p2) "_takes" p3) (.Name "f" p4) p5] p6) (tOp (rIn X.K true) (tVar 2) (tDGet (tFld X.K (tVar 0) "_takes") (tVar 5))) := by
  refine pe_cmpR op_notIn_seq (pv 2 h2) ?_ (by rfl)
  refine pe_dget (hu_of rm) ?_ (pv 5 h5) (fun _ _ => rfl)
  refine pe_fld (pv 0 h0) ?_
  rfl
section
variable {P : Program} {w : World} {K : PySem.W.Frag} {mg : Str → Option Value} {base : Heap} {f C T T2 W c : Addr} {fd : FuncData}
theorem sc1 : FnScope ["self", "told", "kind", "makers", "maker", "f"] ["self", "told"] (defScope (met 1)) := ⟨rfl, rfl, rfl, by decide +kernel, rfl, by decide +kernel, by decide +kernel⟩
theorem ok_addKind {fa : Addr} {fda : FuncData} (F : FunT K "_add_kind" "Ground._add_kind" (met 1) f fd c) (X : TxtG K mg C) (X2 : TxtC K mg) (hany : mg "any" = none) (TB : TabB base mg c T2) (Df : Defs P w K mg base T W) (M : Mets P w K mg base C T W)
    (Ma : Meth K C "_add_maker" fa) (Ga : FnOk P w K mg base CX0 5 fa fda ["self", "kind", "told"] (spAddMaker C T W)) (ba : Binds K fda ["self", "kind", "told"] []) : FnOk P w K mg base CX0 6 f fd ["self", "told"] (spAddKind C T T2) := by
  refine F.ok sc1 (fun vs H Q E h => ?_) (fun A0 outer s H vs Q E hr h => ?_)
  · obtain ⟨g, kd, t, l, vl, mks, A, ks, ts, gs, fs, rs, rfl, _⟩ := h
    rfl
  obtain ⟨g, kd, t, l, vl, mks, A, ks, ts, gs, fs, rs, rfl, B, ht, hl, hv, gd, hT, hT2, hTT, k⟩ := h
  obtain ⟨tmm, emm⟩ := X2.mm
  refine ⟨_, pss_cons (ps_expr (pe_call Df.need (hr.mono (by decide)) rfl Df.mneed Df.kneed Df.bneed .nil pass0 (pa_cons (pe_call Df.isr (hr.mono (by decide)) rfl Df.misr Df.kisr Df.bisr .nil pass0 (pa_cons (pv 1) (pa_cons pe_int pa_nil))) (pa_cons pe_str pa_nil))))
    (pss_cons (ps_asg (pv 1) (pg_tup rfl (pgs_cons (pg_name (i := 2) sc1.nd rfl (Or.inr rfl)) (pgs_cons (pg_name (i := 3) sc1.nd rfl (Or.inl rfl)) pgs_nil))))
    (pss_cons (ps_expr (pe_meth (pv 0) X.cl M.mn M.new (hr.mono (by decide)) M.bn .nil pass0 (pa_cons (pv 2) pa_nil)))
    (pss_cons (ps_expr (pe_call Df.need (hr.mono (by decide)) rfl Df.mneed Df.kneed Df.bneed .nil pass0 (pa_cons (pe_call Df.isl (hr.mono (by decide)) rfl Df.misl Df.kisl Df.bisl .nil pass0 (pa_cons (pv 3) (pa_cons (pe_glob (v := .int 6) rfl emm ⟨_, rfl⟩) pa_nil))) (pa_cons pe_str pa_nil))))
    (pss_cons (ps_dput (hu_of hr) (pe_fld (pv 0) rfl) (pv 2) (pe_tup pa_nil) rfl)
    (pss_cons (ps_for PassesOwn.never rfl (pi_list (pv 3)) (pg_name (i := 4) sc1.nd rfl (Or.inl rfl))
      (pss_one (ps_expr (pe_meth (pv 0) X.cl Ma Ga hr ba .nil pass0 (pa_cons (pv 2) (pa_cons (pv 4) pa_nil))))))
    (pss_one (ps_if (pt_truth (pv 3) (by intro _; rfl)) (pss_one (ps_expr (pe_call Df.need (hr.mono (by decide)) rfl Df.mneed Df.kneed Df.bneed .nil pass0
      (pa_cons (pe_anyGx (k := 3) (own := [("f", 5)]) (g := gName 5) (tt := tYes) hr rfl sc1.nd rfl hany TB rfl (gxS (N := ["self", "told", "kind", "makers", "maker", "f"]) (sc := defScope (met 1)) (by decide +kernel) rfl (by decide +kernel) (by decide +kernel))
        (pi_tup (pe_dget (hu_of hr) (pe_fld (pv 0) rfl) (pv 2) (fun _ _ => rfl)))
        (fun _ _ _ _ _ _ => pg_name (i := 5) sc1.nd rfl (Or.inl rfl)) (fun _ _ _ _ _ _ _ => pts_nil)
        (fun _ _ _ _ _ _ rm => el_kind rfl rfl rfl rm)) (pa_cons pe_str pa_nil))))) pss_nil))))))), ?_⟩
  refine ⟨_, rfl, t, _, 2, rfl, ht, ?_⟩
  refine ⟨_, rfl, ?_⟩
  refine ⟨_, rfl, t, _, rfl, SqT.of ht, rfl, _, _, rfl, _, _, rfl, rfl, ?_⟩
  obtain ⟨D, G0, r1, r2, r3, r4, r5⟩ := B.at
  have nks : kd ∉ nams ks := fun z => (List.nodup_append.mp gd.ndk).2.2 kd z kd (by simp) rfl
  refine ⟨_, rfl, g, A.dx, _, rfl, B.g0, gf_no (by decide +kernel), _, rfl, g, kd, D, rfl, G0, gd.name, has_off r1 nks, has_off r2 gd.nkt, hT, fun H1 h1 => ?_⟩
  have B1 := B.tab h1 hT
  have hT1 : TabG H1 T := h1.1
  have hT21 : TabG H1 T2 := let ⟨ps, hp, hq⟩ := hT2; ⟨ps, by rw [h1.2 T2 hTT]; exact hp, hq⟩
  have hl1 : H1 l = some (.lst vl) := tget h1 hT hl (by intro q z; cases z)
  have hv1 : LsR (MkAt H1) vl mks := hv.mono fun v x ⟨a, b, q1, q2, q3⟩ => ⟨a, b, q1, tget h1 hT q2 (by intro q z; cases z), tget h1 hT q3 (by intro q z; cases z)⟩
  have hlv : vl.length = mks.length := hv.length
  have hlen : decide ((vl.length : Int) ≤ 6) = true := decide_eq_true (by rw [hlv]; have := gd.many; omega)
  refine ⟨_, rfl, l, _, 6, rfl, hl1, ?_⟩
  rw [hlen]
  refine ⟨_, rfl, ?_⟩
  obtain ⟨d1, e1, k1⟩ := B1.ms
  have len1 : d1.length < sizeLine := small1000 (by rw [k1.length]; have := gd.lk; omega)
  refine ⟨Nat.zero_le _, fun p hp => ?_⟩
  have g2 : upd H1 p (.tup []) g = some (.ins C A.dx (gf A.m A.t A.v A.a A.r)) := by rw [upd_ne (ne_of_none B1.g0 hp)]; exact B1.g0
  have m2 : upd H1 p (.tup []) A.m = some (.dK d1) := by rw [upd_ne (ne_of_none e1 hp)]; exact e1
  refine ⟨_, rfl, g, C, A.dx, _, _, rfl, g2, X.cl, X.n1, rfl, _, rfl, A.m, _, rfl, DPut.k (k := Sum.inr kd) m2 len1, ?_⟩
  obtain ⟨B2, K2⟩ := bld_kind (Ts := [T, T2]) B1 e1 k1 nks hp
  have TT1 : ∀ X ∈ [T, T2], TabG H1 X := fun X hX => by
    simp only [List.mem_cons, List.not_mem_nil, or_false] at hX
    rcases hX with rfl | rfl
    · exact hT1
    · exact hT21
  have nm1 : ∀ {Y : Addr}, TabG H1 Y → Y ≠ A.m ∧ Y ≠ p := fun {Y} ⟨ps, hq, _⟩ => ⟨fun z => (by rw [z, e1] at hq; cases hq), fun z => (by rw [z, hp] at hq; cases hq)⟩
  have tab2 : ∀ {Y : Addr}, TabG H1 Y → TabG (upd (upd H1 p (.tup [])) A.m (.dK (putK d1 (Sum.inr kd) (.ref p)))) Y := fun {Y} h => by
    obtain ⟨n1, n2⟩ := nm1 h
    obtain ⟨ps, hq, hz⟩ := h
    exact ⟨ps, by rw [upd_ne n1, upd_ne n2]; exact hq, hz⟩
  have hT12 := tab2 hT1
  have hT22 := tab2 hT21
  have hl2 := K2.get B1 TT1 hl1 (by intro d z; cases z) (by intro d z; cases z)
  have hv2 : LsR (MkAt _) vl mks := hv1.mono fun v x m => K2.mkAt B1 TT1 m
  generalize upd (upd H1 p (.tup [])) A.m (.dK (putK d1 (Sum.inr kd) (.ref p))) = H2 at B2 K2 hT12 hT22 hl2 hv2 ⊢
  have TT2 : ∀ X ∈ [T, T2], TabG H2 X := fun X hX => by
    simp only [List.mem_cons, List.not_mem_nil, or_false] at hX
    rcases hX with rfl | rfl
    · exact hT12
    · exact hT22
  refine ⟨_, rfl, l, rfl, ⟨_, SqL.of hl2⟩, for_list (xs := vl) (fun i σ' H' => (∃ o, σ' = [some (V.ref g), some (V.ref t), some (V.str kd), some (V.ref l), o, none]) ∧ Bld C g A H' (ks ++ [(kd, nams (mks.take i))]) (ts ++ mks.take i) (gs ++ gvs kd (mks.take i)) fs rs ∧ KeptK A [T, T2] H2 H' ∧ TabG H' T ∧ TabG H' T2)
    ⟨⟨_, rfl⟩, by simpa [gvs] using B2, KeptK.refl, hT12, hT22⟩ (fun i σ' H' _ q => SqL.of (q.2.2.1.get B2 TT2 hl2 (by intro d z; cases z) (by intro d z; cases z))) (fun i x σ' H' hx q => ?_) (fun σ' H' q => ?_)⟩
  · obtain ⟨⟨o, rfl⟩, BB, KK, t1, t2⟩ := q
    obtain ⟨m, hm, mA⟩ := hv2.get hx
    obtain ⟨a, b, rfl, ha, hb⟩ := KK.mkAt B2 TT2 mA
    have hmem : m ∈ mks := List.mem_of_getElem? hm
    have et : mks.take (i + 1) = mks.take i ++ [m] := by rw [List.take_succ, hm]; rfl
    have hsub : ∀ x ∈ mks.take i, x ∈ mks := fun x hx => List.mem_of_mem_take hx
    have hnd0 : (nams (mks.take (i + 1))).Nodup := by
      have q1 := (List.nodup_append.mp gd.ndm).2.1
      have q2 : nams (mks.take (i + 1)) = (nams mks).take (i + 1) := by simp [List.map_take]
      rw [q2]
      exact q1.sublist (List.take_sublist _ _)
    have hni : m.1 ∉ nams (mks.take i) := by
      rw [et, show nams (mks.take i ++ [m]) = nams (mks.take i) ++ [m.1] by simp] at hnd0
      exact fun z => (List.nodup_append.mp hnd0).2.2 _ z m.1 (by simp) rfl
    have htl : (mks.take i).length ≤ 6 := Nat.le_trans (by rw [List.length_take]; exact Nat.min_le_right _ _) gd.many
    refine ⟨_, rfl, g, A.dx, _, rfl, BB.g0, gf_no (by decide +kernel), _, rfl, _, rfl, g, kd, m.1, a, b, m.2, A, ks, nams (mks.take i), ts ++ mks.take i, gs ++ gvs kd (mks.take i), fs, rs, rfl, BB, ha, hb, (gd.mtake m hmem).1, gd.mname m hmem, ?_, ?_, ?_, ?_, (gd.mtake m hmem).2, ?_, gd.lk, ?_, ?_, t1, fun H'' b'' k'' t'' => ?_⟩
    · rw [show nams (ks ++ [(kd, nams (mks.take i))]) = nams ks ++ [kd] by simp]; exact gd.ndk
    · rw [show nams (ks ++ [(kd, nams (mks.take i))]) = nams ks ++ [kd] by simp]; exact gd.nmk m hmem
    · rw [show nams (ts ++ mks.take i) = nams ts ++ nams (mks.take i) by simp]
      intro z
      rcases List.mem_append.mp z with z | z
      · exact (List.nodup_append.mp gd.ndm).2.2 _ z m.1 (List.mem_map.mpr ⟨m, hmem, rfl⟩) rfl
      · exact hni z
    · rw [show nams (gs ++ gvs kd (mks.take i)) = nams gs ++ nams (mks.take i) by simp [gvs, Function.comp_def]]
      intro z
      rcases List.mem_append.mp z with z | z
      · exact gd.ndg m hmem z
      · exact hni z
    · rw [List.length_map]; omega
    · rw [List.length_append]; have := gd.lt; omega
    · rw [List.length_append]; have := gd.lg; simp only [gvs, List.length_map]; omega
    · refine ⟨⟨_, rfl⟩, ?_, KK.trans (k''.toK (by simp)), t'', k''.tabG BB t2 hTT⟩
      rw [et, show nams (mks.take i ++ [m]) = nams (mks.take i) ++ [m.1] by simp, show gvs kd (mks.take i ++ [m]) = gvs kd (mks.take i) ++ [(m.1, kd)] by simp [gvs], ← List.append_assoc, ← List.append_assoc]
      exact b''
  · obtain ⟨⟨o, rfl⟩, BB, KK, t1, t2⟩ := q
    rw [hlv, List.take_length] at BB
    have hl3 := KK.get B2 TT2 hl2 (by intro d z; cases z) (by intro d z; cases z)
    have kept : KeptK A [T, T2] H H' := ((KeptG.tab h1).toK (by simp)).trans (K2.trans KK)
    refine ⟨_, rfl, !vl.isEmpty, .inl ⟨vl, SqL.of hl3, rfl⟩, ?_⟩
    cases hvl : vl with
    | nil =>
      have : mks = [] := List.eq_nil_of_length_eq_zero (by rw [← hlv, hvl]; rfl)
      exact k H' BB kept t1 t2
    | cons v0 vr =>
      have hne : mks ≠ [] := fun z => by rw [hvl, z] at hlv; cases hlv
      show (if true = true then _ else _)
      obtain ⟨d1', e1', k1'⟩ := BB.ms
      obtain ⟨d2', e2', k2'⟩ := BB.ts
      obtain ⟨w1, hw1, mt, ew1, hmt⟩ := k1'.val (x := (kd, nams mks)) (by simp) (by rw [List.map_append]; exact gd.ndk)
      have dg := DGet.k (k := Sum.inr kd) e1'
      rw [show valV d1' (Sum.inr kd) = some w1 from hw1, ew1] at dg
      have hmt : H' mt = some (.tup (txs (nams mks))) := hmt
      have at_ : ∀ {H3 : Hp}, Tabbed T2 H' H3 → H3 mt = some (.tup (txs (nams mks))) := fun h => tget h t2 hmt (by intro q z; cases z)
      have fin : ∀ {H3 : Hp}, Tabbed T2 H' H3 → Q .non H3 := fun {H3} h => by
        refine k H3 (BB.tab h t2) (kept.trans ((KeptG.tab h).toK (by simp))) ?_ h.1
        obtain ⟨ps, hq, hz⟩ := t1
        exact ⟨ps, by rw [h.2 T fun z => hTT z.symm]; exact hq, hz⟩
      refine ⟨_, rfl, g, C, A.dx, _, _, rfl, BB.g0, X.cl, X.n1, rfl, _, rfl, A.m, .ref mt, rfl, dg, mt, rfl, ⟨_, SqT.of hmt⟩, t2, _, fun H3 tab => ⟨_, rfl, Nat.zero_le _, tab, fun j m hj _ => absurd hj (Nat.not_lt_zero _)⟩,
        gxt_yes mks.length (fun i H3 => Tabbed T2 H' H3 ∧ ∀ j m, j < i → mks[j]? = some m → kd ∈ m.2) (fun i H3 hi q => ⟨_, V.str (mks[i]).1, SqT.of (at_ q.1), by simp [hi]⟩) (fun H3 q => ⟨_, SqT.of (at_ q.1), by simp⟩) (fun H3 q => ?_) (fun _ => rfl) fun i x H3 H4 hi q y => ?_⟩
      · obtain ⟨m, hm, hk⟩ := gd.own hne
        obtain ⟨j, hj, ej⟩ := List.getElem_of_mem hm
        exact absurd (q.2 j m hj (by rw [List.getElem?_eq_getElem hj, ej])) hk
      · obtain ⟨rfl, y⟩ := y
        have hx := y _ (SqT.of (at_ q.1))
        have hm : mks[i]? = some mks[i] := List.getElem?_eq_getElem hi
        generalize mks[i] = m at hm
        have ex : x = V.str m.1 := by
          simp only [List.getElem?_map, hm, Option.map_some] at hx
          exact (Option.some.inj hx).symm
        subst ex
        have hmem : m ∈ mks := List.mem_of_getElem? hm
        obtain ⟨w2, hw2, tt, ew2, htt⟩ := k2'.val (x := m) (List.mem_append_right _ hmem) (by rw [List.map_append]; exact gd.ndm)
        have B4 := BB.tab q.1 t2
        have e2'' : H4 A.t = some (.dK d2') := tget q.1 t2 e2' (by intro d z; cases z)
        have htt' : H4 tt = some (.tup (txs m.2)) := tget q.1 t2 htt (by intro d z; cases z)
        have dt := DGet.k (k := Sum.inr m.1) e2''
        rw [show valV d2' (Sum.inr m.1) = some w2 from hw2, ew2] at dt
        refine ⟨_, rfl, _, rfl, g, C, A.dx, _, _, rfl, B4.g0, X.cl, X.n2, rfl, _, rfl, A.t, .ref tt, rfl, dt, tt, txs m.2, rfl, .inr (SqT.of htt'), rfl, (by simp [flatV]), _, rfl, fun hc => ?_, fun hc => ⟨q.1, fun j m' hj hm' => ?_⟩⟩
        · exact ⟨_, rfl, fin q.1⟩
        · rcases Nat.lt_or_ge j i with h1 | h1
          · exact q.2 j m' h1 hm'
          · have : j = i := by omega
            subst this
            rw [hm] at hm'
            cases hm'
            have : inV (V.str kd) (txs m.2) = true := by
              cases e : inV (V.str kd) (txs m.2) with
              | true => rfl
              | false => exact absurd (by show (!inV (V.str kd) (txs m.2)) = true; rw [e]; rfl) hc
            unfold inV at this
            obtain ⟨y, hy, he⟩ := List.any_eq_true.mp this
            obtain ⟨z, hz, rfl⟩ := List.mem_map.mp hy
            have : z = kd := by simpa [eqV] using he
            rw [← this]; exact hz
end
end GN

/-! GN9: _makers_falling where there is no place. -/
namespace GN
open PySem PySem.Spec PyProof.Rows L2 GenW GxR NdefX GX
theorem pss_off {X : Cx} {sts : List Stmt} : PSs X sts (fun _ _ _ => False) := ⟨fun _ _ _ _ _ _ h => h.elim⟩
section
variable {P : Program} {w : World} {K : PySem.W.Frag} {mg : Str → Option Value} {base : Heap} {f C T W : Addr} {fd : FuncData}
theorem sc4 : FnScope ["self", "takes", "at", "rights", "makers", "_"] ["self", "takes", "at", "rights"] (defScope (met 4)) := ⟨rfl, rfl, rfl, by decide +kernel, rfl, by decide +kernel, by decide +kernel⟩
def spMF0 : Sp := fun vs H Q _ => ∃ (x y : V) (r : Addr) (rv : List V), vs = [x, y, .non, .ref r] ∧ H r = some (.lst rv) ∧ rv.length ≤ 1 ∧ ∀ p, H p = none → Q (.ref p) (upd H p (.lst (List.replicate rv.length .non)))
theorem ok_mf0 (F : Fun K "_makers_falling" "Ground._makers_falling" (met 4) f fd) (X : TxtG K mg C) (Df : Defs P w K mg base T W) : FnOk P w K mg base CX0 2 f fd ["self", "takes", "at", "rights"] spMF0 := by
  refine F.ok sc4 (fun vs H Q E h => ?_) (fun cdv A0 outer s H vs Q E hr h => ?_)
  · obtain ⟨x, y, r, rv, rfl, _⟩ := h
    rfl
  obtain ⟨x, y, r, rv, rfl, hrv, hl, k⟩ := h
  refine ⟨_, pss_cons (ps_if (pt_cmpR op_isN (pv 2) pe_non (nomark _)) (pss_cons (ps_expr (pe_call Df.need hr rfl Df.mneed Df.kneed Df.bneed .nil pass0 (pa_cons (pe_cmpR op_le (pe_callB call_len_seq (by rfl) X.len PySem.boot_len (pa_cons (pv 3) pa_nil)) pe_int (nomark _)) (pa_cons pe_str pa_nil))))
      (pss_one (ps_ret (pe_lc (own := [("_", 5)]) (g := gName 5) (tt := tYes) rfl sc4.nd (pi_list (pv 3)) (blkOk_by (N := ["self", "takes", "at", "rights", "makers", "_"]) (sc := defScope (met 4)) (by decide +kernel)) (fun _ _ _ _ _ => pg_name (i := 5) sc4.nd rfl (Or.inl rfl)) (fun _ _ _ _ _ => pts_nil) (fun _ _ _ _ _ => pe_non))))) pss_nil) pss_off, ?_⟩
  refine ⟨_, rfl, rfl, _, rfl, ?_⟩
  refine ⟨_, rfl, r, rv, rfl, .inl (SqL.of hrv), _, _, rfl, rfl, ?_⟩
  have hd : decide ((rv.length : Int) ≤ 1) = true := decide_eq_true (by omega)
  refine ⟨_, congrArg (fun b => [V.bl b, V.str "a work without a place has one right or none"]) hd, ?_⟩
  refine ⟨_, rfl, r, rfl, ⟨_, SqL.of hrv⟩, fun D hD => ?_⟩
  refine lc_list (xs := rv) (fun i H' => H' = upd H D (.lst (List.replicate i .non))) rfl (fun i H' hi p => ?_) (fun i x H' hx p => ?_) (fun H' p => ?_)
  · rw [p]
    exact SqL.of (by rw [upd_ne (ne_of_none hrv hD)]; exact hrv)
  · subst p
    refine ⟨rfl, ?_⟩
    unfold tYes
    simp only [if_true]
    have hi : i < rv.length := by
      rcases Nat.lt_or_ge i rv.length with h | h
      · exact h
      · rw [List.getElem?_eq_none h] at hx; cases hx
    refine ⟨_, upd_same, small1000 (by rw [List.length_replicate]; omega), ?_⟩
    rw [upd_upd, ← List.replicate_succ']
  · rw [p]
    exact k D hD
end
end GN

/-! GN10: _add_work of an open work. -/
namespace GN
open PySem PySem.Spec PyProof.Rows L2 GenW GxR NdefX GX
section
variable {C g : Addr} {A : GA} {HA : Hp} {ks ts : List (Str × List Str)} {gs : List (Str × Str)} {fs : List (Str × V)} {rs : List (Str × List V)} {fn gv : Str} {tks : List Str} {av : V} {rv : List V} {d2 d3 d4 d5 : List (Key × V)} {tt u q : Addr}
def wH3 (A : GA) (HA : Hp) (d2 : List (Key × V)) (fn : Str) (tks : List Str) (tt : Addr) : Hp := upd (upd HA tt (.tup (txs tks))) A.t (.dK (putK d2 (.inr fn) (.ref tt)))
def wH4 (A : GA) (HA : Hp) (d2 d3 : List (Key × V)) (fn gv : Str) (tks : List Str) (tt : Addr) : Hp := upd (wH3 A HA d2 fn tks tt) A.v (.dK (putK d3 (.inr fn) (.str gv)))
def wH5 (A : GA) (HA : Hp) (d2 d3 d4 : List (Key × V)) (fn gv : Str) (tks : List Str) (av : V) (tt : Addr) : Hp := upd (wH4 A HA d2 d3 fn gv tks tt) A.a (.dK (putK d4 (.inr fn) av))
def wH7 (A : GA) (HA : Hp) (d2 d3 d4 d5 : List (Key × V)) (fn gv : Str) (tks : List Str) (av : V) (tt u : Addr) : Hp := upd (upd (wH5 A HA d2 d3 d4 fn gv tks av tt) u (.tup [])) A.r (.dK (putK d5 (.inr fn) (.ref u)))
def wH9 (A : GA) (HA : Hp) (d2 d3 d4 d5 : List (Key × V)) (fn gv : Str) (tks : List Str) (av : V) (rv : List V) (tt u q : Addr) : Hp :=
  upd (upd (wH7 A HA d2 d3 d4 d5 fn gv tks av tt u) q (.tup rv)) A.r (.dK (putK (putK d5 (.inr fn) (.ref u)) (.inr fn) (.ref q)))
theorem bld_work (B : Bld C g A HA ks ts gs fs rs) (e2 : HA A.t = some (.dK d2)) (h2 : KvR (·.1) (fun v x => tupS HA v x.2) d2 ts) (e3 : HA A.v = some (.dK d3)) (h3 : KvR (·.1) (fun v x => v = .str x.2) d3 gs)
    (e4 : HA A.a = some (.dK d4)) (h4 : KvR (·.1) (fun v x => v = x.2) d4 fs) (e5 : HA A.r = some (.dK d5)) (h5 : KvR (·.1) (fun v x => ∃ t, v = .ref t ∧ HA t = some (.tup x.2)) d5 rs)
    (n2 : fn ∉ nams ts) (n3 : fn ∉ nams gs) (n4 : fn ∉ nams fs) (n5 : fn ∉ nams rs) (htt : HA tt = none) (hu : wH5 A HA d2 d3 d4 fn gv tks av tt u = none) (hq : wH7 A HA d2 d3 d4 d5 fn gv tks av tt u q = none) :
    Bld C g A (wH9 A HA d2 d3 d4 d5 fn gv tks av rv tt u q) ks (ts ++ [(fn, tks)]) (gs ++ [(fn, gv)]) (fs ++ [(fn, av)]) (rs ++ [(fn, rv)]) ∧ Kb [A.t, A.v, A.a, A.r] HA (wH9 A HA d2 d3 d4 d5 fn gv tks av rv tt u q) := by
  have nd := B.nd
  simp only [List.nodup_cons, List.mem_cons, List.not_mem_nil, or_false, not_or, List.nodup_nil, not_false_eq_true, and_true] at nd
  obtain ⟨⟨mt, mv, ma, mr⟩, ⟨tv, ta, tr⟩, ⟨va, vr⟩, ar⟩ := nd
  obtain ⟨d1, e1, h1⟩ := B.ms
  have k03 : Kb [A.t] HA (wH3 A HA d2 fn tks tt) := (kb_new htt).trans (kb_upd (by simp))
  have k34 : Kb [A.v] (wH3 A HA d2 fn tks tt) (wH4 A HA d2 d3 fn gv tks tt) := kb_upd (by simp)
  have k45 : Kb [A.a] (wH4 A HA d2 d3 fn gv tks tt) (wH5 A HA d2 d3 d4 fn gv tks av tt) := kb_upd (by simp)
  have k57 : Kb [A.r] (wH5 A HA d2 d3 d4 fn gv tks av tt) (wH7 A HA d2 d3 d4 d5 fn gv tks av tt u) := (kb_new hu).trans (kb_upd (by simp))
  have k79 : Kb [A.r] (wH7 A HA d2 d3 d4 d5 fn gv tks av tt u) (wH9 A HA d2 d3 d4 d5 fn gv tks av rv tt u q) := (kb_new hq).trans (kb_upd (by simp))
  have t3 : wH3 A HA d2 fn tks tt A.t = some (.dK (putK d2 (.inr fn) (.ref tt))) := upd_same
  have tt3 : wH3 A HA d2 fn tks tt tt = some (.tup (txs tks)) := by
    unfold wH3
    rw [upd_ne (ne_of_none e2 htt).symm]; exact upd_same
  have v4 : wH4 A HA d2 d3 fn gv tks tt A.v = some (.dK (putK d3 (.inr fn) (.str gv))) := upd_same
  have a5 : wH5 A HA d2 d3 d4 fn gv tks av tt A.a = some (.dK (putK d4 (.inr fn) av)) := upd_same
  have r7 : wH7 A HA d2 d3 d4 d5 fn gv tks av tt u A.r = some (.dK (putK d5 (.inr fn) (.ref u))) := upd_same
  have r9 : wH9 A HA d2 d3 d4 d5 fn gv tks av rv tt u q A.r = some (.dK (putK (putK d5 (.inr fn) (.ref u)) (.inr fn) (.ref q))) := upd_same
  have q9 : wH9 A HA d2 d3 d4 d5 fn gv tks av rv tt u q q = some (.tup rv) := by
    unfold wH9
    rw [upd_ne (ne_of_none r7 hq).symm]; exact upd_same
  have v3 := k03 _ _ e3 (by simpa using fun z => tv z.symm)
  have a3 := k03 _ _ e4 (by simpa using fun z => ta z.symm)
  have r3 := k03 _ _ e5 (by simpa using fun z => tr z.symm)
  have a4 := k34 _ _ a3 (by simpa using fun z => va z.symm)
  have r4 := k34 _ _ r3 (by simpa using fun z => vr z.symm)
  have r5 := k45 _ _ r4 (by simpa using fun z => ar z.symm)
  have t9 := k79 _ _ (k57 _ _ (k45 _ _ (k34 _ _ t3 (by simpa using tv)) (by simpa using ta)) (by simpa using tr)) (by simpa using tr)
  have v9 := k79 _ _ (k57 _ _ (k45 _ _ v4 (by simpa using va)) (by simpa using vr)) (by simpa using vr)
  have a9 := k79 _ _ (k57 _ _ a5 (by simpa using ar)) (by simpa using ar)
  have off1 : ∀ {H : Hp} {b c : Addr} {o : HO} {d : List (Key × V)}, H b = some o → H c = some (.dK d) → (∀ d, o ≠ .dK d) → b ∉ [c] := fun {H b c o d} hb hc hd z => by
    simp only [List.mem_singleton] at z
    rw [z, hc] at hb; cases hb; exact hd _ rfl
  have keep : ∀ b o, HA b = some o → (∀ d, o ≠ .dK d) → wH9 A HA d2 d3 d4 d5 fn gv tks av rv tt u q b = some o := fun b o e hd => by
    have x3 := k03 _ _ e (off1 e e2 hd)
    have x4 := k34 _ _ x3 (off1 x3 v3 hd)
    have x5 := k45 _ _ x4 (off1 x4 a4 hd)
    have x7 := k57 _ _ x5 (off1 x5 r5 hd)
    exact k79 _ _ x7 (off1 x7 r7 hd)
  have tt9 : wH9 A HA d2 d3 d4 d5 fn gv tks av rv tt u q tt = some (.tup (txs tks)) := by
    have x4 := k34 _ _ tt3 (off1 tt3 v3 (by intro d z; cases z))
    have x5 := k45 _ _ x4 (off1 x4 a4 (by intro d z; cases z))
    have x7 := k57 _ _ x5 (off1 x5 r5 (by intro d z; cases z))
    exact k79 _ _ x7 (off1 x7 r7 (by intro d z; cases z))
  have m9 : wH9 A HA d2 d3 d4 d5 fn gv tks av rv tt u q A.m = some (.dK d1) :=
    k79 _ _ (k57 _ _ (k45 _ _ (k34 _ _ (k03 _ _ e1 (by simpa using mt)) (by simpa using mv)) (by simpa using ma)) (by simpa using mr)) (by simpa using mr)
  have tp : ∀ v l, tupS HA v l → tupS (wH9 A HA d2 d3 d4 d5 fn gv tks av rv tt u q) v l := fun v l ⟨t, e, ht⟩ => ⟨t, e, keep _ _ ht (by intro d z; cases z)⟩
  have off2 : valV d2 (Sum.inr fn) = none := h2.none fun x hx e => n2 (by rw [← e]; exact List.mem_map.mpr ⟨x, hx, rfl⟩)
  have off3 : valV d3 (Sum.inr fn) = none := h3.none fun x hx e => n3 (by rw [← e]; exact List.mem_map.mpr ⟨x, hx, rfl⟩)
  have off4 : valV d4 (Sum.inr fn) = none := h4.none fun x hx e => n4 (by rw [← e]; exact List.mem_map.mpr ⟨x, hx, rfl⟩)
  have off5 : valV d5 (Sum.inr fn) = none := h5.none fun x hx e => n5 (by rw [← e]; exact List.mem_map.mpr ⟨x, hx, rfl⟩)
  have kall : Kb [A.t, A.v, A.a, A.r] HA (wH9 A HA d2 d3 d4 d5 fn gv tks av rv tt u q) := fun b o e hb => by
    simp only [List.mem_cons, List.not_mem_nil, or_false, not_or] at hb
    obtain ⟨b1, b2, b3, b4⟩ := hb
    exact k79 _ _ (k57 _ _ (k45 _ _ (k34 _ _ (k03 _ _ e (by simpa using b1)) (by simpa using b2)) (by simpa using b3)) (by simpa using b4)) (by simpa using b4)
  refine ⟨⟨B.nd, keep _ _ B.g0 (by intro d z; cases z), ⟨d1, m9, h1.mono fun v x => tp v _⟩, ⟨_, t9, ?_⟩, ⟨_, v9, ?_⟩, ⟨_, a9, ?_⟩, ⟨_, r9, ?_⟩⟩, kall⟩
  · rw [putK_new off2]
    exact (h2.mono fun v x => tp v _).snoc (x := (fn, tks)) ⟨tt, rfl, tt9⟩
  · rw [putK_new off3]
    exact h3.snoc (x := (fn, gv)) rfl
  · rw [putK_new off4]
    exact h4.snoc (x := (fn, av)) rfl
  · rw [putK_new off5, putK_last off5]
    exact (h5.mono fun v x ⟨t, e, ht⟩ => ⟨t, e, keep _ _ ht (by intro d z; cases z)⟩).snoc (x := (fn, rv)) ⟨q, rfl, q9⟩
end
end GN

/-! GN11: _add_work of an open work (without a place, without rights). -/
namespace GN
open PySem PySem.Spec PyProof.Rows L2 GenW GxR NdefX GX
def spAddWork0 (C T T3 : Addr) : Sp := fun vs H Q _ => ∃ (g : Addr) (fn gv : Str) (t l r : Addr) (tks : List Str) (A : GA) (ks ts : List (Str × List Str)) (gs : List (Str × Str)) (fs : List (Str × V)) (rs : List (Str × List V)),
  vs = [.ref g, .ref t] ∧ Bld C g A H ks ts gs fs rs ∧ H t = some (.tup [.str fn, .ref l, .str gv, .non, .ref r]) ∧ H l = some (.lst (txs tks)) ∧ H r = some (.lst []) ∧ tks.length ≤ 4 ∧ isNameB fn = true ∧ fn ∉ nams ks ∧ fn ∉ nams ts ∧ fn ∉ nams gs ∧ fn ∉ nams fs ∧ fn ∉ nams rs ∧
  (nams ks).Nodup ∧ (∀ x ∈ tks, x ∈ nams ks) ∧ gv ∈ nams ks ∧ ts.length ≤ 1000 ∧ gs.length ≤ 1000 ∧ fs.length ≤ 100 ∧ rs.length ≤ 100 ∧ TabG H T ∧ TabG H T3 ∧ T3 ≠ T ∧
  ∀ H', Bld C g A H' ks (ts ++ [(fn, tks)]) (gs ++ [(fn, gv)]) (fs ++ [(fn, .non)]) (rs ++ [(fn, [])]) → KeptK A [T, T3] H H' → TabG H' T → TabG H' T3 → Q .non H'
theorem offd {H : Hp} {b c : Addr} {o : HO} {d : List (Key × V)} (hb : H b = some o) (hc : H c = some (.dK d)) (hd : ∀ d, o ≠ .dK d) : b ∉ [c] := fun z => by
  simp only [List.mem_singleton] at z
  rw [z, hc] at hb; cases hb; exact hd _ rfl
theorem Bld.kb0 {C g : Addr} {A : GA} {H H' : Hp} {ks ts : List (Str × List Str)} {gs : List (Str × Str)} {fs : List (Str × V)} {rs : List (Str × List V)} (B : Bld C g A H ks ts gs fs rs) (k : Kb [] H H') : Bld C g A H' ks ts gs fs rs := by
  have kk : ∀ b o, H b = some o → H' b = some o := fun b o e => k b o e (by simp)
  have tp : ∀ v l, tupS H v l → tupS H' v l := fun v l ⟨t, e, ht⟩ => ⟨t, e, kk _ _ ht⟩
  obtain ⟨d1, e1, h1⟩ := B.ms
  obtain ⟨d2, e2, h2⟩ := B.ts
  obtain ⟨d3, e3, h3⟩ := B.gs
  obtain ⟨d4, e4, h4⟩ := B.fs
  obtain ⟨d5, e5, h5⟩ := B.rs
  exact ⟨B.nd, kk _ _ B.g0, ⟨d1, kk _ _ e1, h1.mono fun v x => tp v _⟩, ⟨d2, kk _ _ e2, h2.mono fun v x => tp v _⟩, ⟨d3, kk _ _ e3, h3⟩, ⟨d4, kk _ _ e4, h4⟩, ⟨d5, kk _ _ e5, h5.mono fun v x ⟨t, e, ht⟩ => ⟨t, e, kk _ _ ht⟩⟩⟩
section
variable {P : Program} {w : World} {K : PySem.W.Frag} {mg : Str → Option Value} {base : Heap} {f C T T3 W c : Addr} {fd : FuncData}
theorem sc3 : FnScope ["self", "told", "f", "takes", "gives", "at", "rights", "makers", "maker", "right", "taken"] ["self", "told"] (defScope (met 3)) := ⟨rfl, rfl, rfl, by decide +kernel, rfl, by decide +kernel, by decide +kernel⟩
theorem ok_addWork0 {fm : Addr} {fdm : FuncData} (F : FunT K "_add_work" "Ground._add_work" (met 3) f fd c) (X : TxtG K mg C) (X2 : TxtC K mg) (hall : mg "all" = none) (hzip : mg "zip" = none) (TB : TabB base mg c T3) (Df : Defs P w K mg base T W) (M : Mets P w K mg base C T W)
    (Mm : Meth K C "_makers_falling" fm) (Gm : FnOk P w K mg base CX0 2 fm fdm ["self", "takes", "at", "rights"] spMF0) (bm : Binds K fdm ["self", "takes", "at", "rights"] []) : FnOk P w K mg base CX0 6 f fd ["self", "told"] (spAddWork0 C T T3) := by
  refine F.ok sc3 (fun vs H Q E h => ?_) (fun A0 outer s H vs Q E hr h => ?_)
  · obtain ⟨g, fn, gv, t, l, r, tks, A, ks, ts, gs, fs, rs, rfl, _⟩ := h
    rfl
  obtain ⟨g, fn, gv, t, l, r, tks, A, ks, ts, gs, fs, rs, rfl, B, ht, hl, hrl, hn, hnm, n1, n2, n3, n4, n5, ndk, htk, hgv, z2, z3, z4, z5, hT, hT3, hTT, k⟩ := h
  obtain ⟨tmt, emt⟩ := X2.mt
  refine ⟨_, pss_cons (ps_expr (pe_call Df.need (hr.mono (by decide)) rfl Df.mneed Df.kneed Df.bneed .nil pass0 (pa_cons (pe_call Df.isr (hr.mono (by decide)) rfl Df.misr Df.kisr Df.bisr .nil pass0 (pa_cons (pv 1) (pa_cons pe_int pa_nil))) (pa_cons pe_str pa_nil))))
    (pss_cons (ps_asg (pv 1) (pg_tup rfl (pgs_cons (pg_name (i := 2) sc3.nd rfl (Or.inl rfl)) (pgs_cons (pg_name (i := 3) sc3.nd rfl (Or.inl rfl)) (pgs_cons (pg_name (i := 4) sc3.nd rfl (Or.inl rfl)) (pgs_cons (pg_name (i := 5) sc3.nd rfl (Or.inl rfl)) (pgs_cons (pg_name (i := 6) sc3.nd rfl (Or.inl rfl)) pgs_nil)))))))
    (pss_cons (ps_expr (pe_meth (pv 0) X.cl M.mn M.new (hr.mono (by decide)) M.bn .nil pass0 (pa_cons (pv 2) pa_nil)))
    (pss_cons (ps_expr (pe_call Df.need (hr.mono (by decide)) rfl Df.mneed Df.kneed Df.bneed .nil pass0 (pa_cons (pe_call Df.isl (hr.mono (by decide)) rfl Df.misl Df.kisl Df.bisl .nil pass0 (pa_cons (pv 3) (pa_cons (pe_glob (v := .int 4) rfl emt ⟨_, rfl⟩) pa_nil))) (pa_cons pe_str pa_nil))))
    (pss_cons (ps_expr (pe_call Df.need (hr.mono (by decide)) rfl Df.mneed Df.kneed Df.bneed .nil pass0
      (pa_cons (pe_allGx (k := 3) (own := [("taken", 10)]) (g := gName 10) (tt := tYes) hr rfl sc3.nd rfl hall boot_all TB rfl (gxS (N := ["self", "told", "f", "takes", "gives", "at", "rights", "makers", "maker", "right", "taken"]) (sc := defScope (met 3)) (by decide +kernel) rfl (by decide +kernel) (by decide +kernel))
        (pi_list (pv 3)) (fun _ _ _ _ _ _ => pg_name (i := 10) sc3.nd rfl (Or.inl rfl)) (fun _ _ _ _ _ _ _ => pts_nil)
        (fun _ _ _ _ _ _ rm => pe_meth (pv 0) X.cl M.mK M.kind (rm.mono (by decide)) M.bk .nil pass0 (pa_cons (pv 10) pa_nil))) (pa_cons pe_str pa_nil))))
    (pss_cons (ps_expr (pe_call Df.need (hr.mono (by decide)) rfl Df.mneed Df.kneed Df.bneed .nil pass0 (pa_cons (pe_meth (pv 0) X.cl M.mK M.kind (hr.mono (by decide)) M.bk .nil pass0 (pa_cons (pv 4) pa_nil)) (pa_cons pe_str pa_nil))))
    (pss_cons (ps_expr (pe_call Df.need (hr.mono (by decide)) rfl Df.mneed Df.kneed Df.bneed .nil pass0 (pa_cons (pe_callB call_isi (by rfl) X.isi boot_isi (pa_cons (pv 6) (pa_cons (pe_bltn (v := .ty "list") rfl X.lst boot_lst rfl) pa_nil))) (pa_cons pe_str pa_nil))))
    (pss_cons (ps_set (i := 7) sc3.nd rfl (Or.inl rfl) (pe_meth (pv 0) X.cl Mm Gm (hr.mono (by decide)) bm .nil pass0 (pa_cons (pv 3) (pa_cons (pv 5) (pa_cons (pv 6) pa_nil)))))
    (pss_cons (ps_dput (hu_of hr) (pe_fld (pv 0) rfl) (pv 2) (pe_callTy call_tuple_of (by rfl) X2.tup boot_tupT (pa_cons (pv 3) pa_nil)) rfl)
    (pss_cons (ps_dput (hu_of hr) (pe_fld (pv 0) rfl) (pv 2) (pv 4) rfl)
    (pss_cons (ps_dput (hu_of hr) (pe_fld (pv 0) rfl) (pv 2) (pv 5) rfl)
    (pss_cons (ps_dput (hu_of hr) (pe_fld (pv 0) rfl) (pv 2) (pe_tup pa_nil) rfl)
    (pss_cons (ps_for PassesOwn.never rfl (pi_zip rfl hzip (pa_cons (pv 7) (pa_cons (pv 6) pa_nil))) (pg_tup rfl (pgs_cons (pg_name (i := 8) sc3.nd rfl (Or.inl rfl)) (pgs_cons (pg_name (i := 9) sc3.nd rfl (Or.inl rfl)) pgs_nil))) pss_off)
    (pss_one (ps_dput (hu_of hr) (pe_fld (pv 0) rfl) (pv 2) (pe_callTy call_tuple_of (by rfl) X2.tup boot_tupT (pa_cons (pv 6) pa_nil)) rfl)))))))))))))), ?_⟩
  refine ⟨_, rfl, t, _, 5, rfl, ht, ?_⟩
  refine ⟨_, rfl, ?_⟩
  refine ⟨_, rfl, t, _, rfl, SqT.of ht, rfl, _, _, rfl, _, _, rfl, _, _, rfl, _, _, rfl, _, _, rfl, rfl, ?_⟩
  obtain ⟨D, G0, r1, r2, r3, r4, r5⟩ := B.at
  refine ⟨_, rfl, g, A.dx, _, rfl, B.g0, gf_no (by decide +kernel), _, rfl, g, fn, D, rfl, G0, hnm, has_off r1 n1, has_off r2 n2, hT, fun H1 h1 => ?_⟩
  have B1 := B.tab h1 hT
  have hT1 : TabG H1 T := h1.1
  have hT31 : TabG H1 T3 := let ⟨ps, hp, hq⟩ := hT3; ⟨ps, by rw [h1.2 T3 hTT]; exact hp, hq⟩
  have hl1 : H1 l = some (.lst (txs tks)) := tget h1 hT hl (by intro q z; cases z)
  have hr1 : H1 r = some (.lst []) := tget h1 hT hrl (by intro q z; cases z)
  have hlen : decide (((txs tks).length : Int) ≤ 4) = true := decide_eq_true (by rw [List.length_map]; omega)
  refine ⟨_, rfl, l, _, 4, rfl, hl1, ?_⟩
  rw [hlen]
  refine ⟨_, rfl, ?_⟩
  have isK : ∀ {H2 : Hp} (B2 : Bld C g A H2 ks ts gs fs rs) {y : Str}, y ∈ nams ks → ∃ D2, GroundAt C H2 g D2 ∧ D2.isKind (some y) = true := fun {H2} B2 {y} hy => by
    obtain ⟨D2, G2, q1, _⟩ := B2.at
    obtain ⟨m, hm, rfl⟩ := List.mem_map.mp hy
    obtain ⟨v, hv, _⟩ := q1.val (x := m) hm ndk
    refine ⟨D2, G2, ?_⟩
    show (valV D2.ms (Sum.inr m.1)).isSome = true
    rw [show valV D2.ms (Sum.inr m.1) = some v from hv]
    rfl
  refine ⟨_, rfl, l, rfl, ⟨_, SqL.of hl1⟩, hT31, _, fun H2 tab => ⟨_, rfl, Nat.zero_le _, tab⟩,
    gxt_yes tks.length (fun i H2 => Tabbed T3 H1 H2) (fun i H2 hi q => ⟨_, V.str tks[i], SqL.of (tget q hT31 hl1 (by intro q z; cases z)), by simp [hi]⟩) (fun H2 q => ⟨_, SqL.of (tget q hT31 hl1 (by intro q z; cases z)), by simp⟩) (fun H2 q => ?_) (fun _ => rfl) fun i x H3 H4 hi q y => ?_⟩
  · have B2 := B1.tab q hT31
    have hl2 : H2 l = some (.lst (txs tks)) := tget q hT31 hl1 (by intro q z; cases z)
    have hr2 : H2 r = some (.lst []) := tget q hT31 hr1 (by intro q z; cases z)
    have hT2 : TabG H2 T := let ⟨ps, hp, hq⟩ := hT1; ⟨ps, by rw [q.2 T fun z => hTT z.symm]; exact hp, hq⟩
    have hT32 : TabG H2 T3 := q.1
    obtain ⟨D2, G2, hk2⟩ := isK B2 hgv
    refine ⟨_, rfl, ?_⟩
    refine ⟨_, rfl, g, A.dx, _, rfl, B2.g0, gf_no (by decide +kernel), _, rfl, g, .str gv, some gv, D2, rfl, G2, rfl, ?_⟩
    rw [hk2]
    refine ⟨_, rfl, ?_⟩
    refine ⟨_, rfl, V.ref r, V.ty "list", _, _, true, rfl, .ty "list", .base (.lst hr2), kit_ty (by decide +kernel), ?_⟩
    refine ⟨_, rfl, ?_⟩
    refine ⟨_, rfl, g, A.dx, _, rfl, B2.g0, gf_no (by decide +kernel), _, rfl, _, rfl, _, rfl, _, _, r, [], rfl, hr2, Nat.zero_le _, fun p hp => ?_⟩
    have BA := B2.kb0 (kb_new (o := .lst (List.replicate ([] : List V).length .non)) hp)
    have kA : Kb [] H2 (upd H2 p (.lst (List.replicate ([] : List V).length .non))) := kb_new hp
    have hlA := kA _ _ hl2 (by simp)
    have hrA := kA _ _ hr2 (by simp)
    have pA : upd H2 p (.lst (List.replicate ([] : List V).length .non)) p = some (.lst []) := upd_same
    have hTA : TabG (upd H2 p (.lst (List.replicate ([] : List V).length .non))) T := let ⟨ps, hp', hq⟩ := hT2; ⟨ps, kA _ _ hp' (by simp), hq⟩
    have hT3A : TabG (upd H2 p (.lst (List.replicate ([] : List V).length .non))) T3 := let ⟨ps, hp', hq⟩ := hT32; ⟨ps, kA _ _ hp' (by simp), hq⟩
    have keptA : KeptK A [T, T3] H (upd H2 p (.lst (List.replicate ([] : List V).length .non))) := (((KeptG.tab h1).toK (by simp)).trans ((KeptG.tab q).toK (by simp))).trans (KeptK.new hp)
    generalize upd H2 p (.lst (List.replicate ([] : List V).length .non)) = HA at BA kA hlA hrA pA hTA hT3A keptA ⊢
    obtain ⟨d2, e2, k2⟩ := BA.ts
    obtain ⟨d3, e3, k3⟩ := BA.gs
    obtain ⟨d4, e4, k4⟩ := BA.fs
    obtain ⟨d5, e5, k5⟩ := BA.rs
    have nd := BA.nd
    simp only [List.nodup_cons, List.mem_cons, List.not_mem_nil, or_false, not_or, List.nodup_nil, not_false_eq_true, and_true] at nd
    obtain ⟨⟨mt, mv, ma, mr⟩, ⟨tv, ta, tr⟩, ⟨va, vr⟩, ar⟩ := nd
    have len2 : d2.length < sizeLine := small1000 (by rw [k2.length]; exact z2)
    have len3 : d3.length < sizeLine := small1000 (by rw [k3.length]; exact z3)
    have len4 : d4.length < sizeLine := small1000 (by rw [k4.length]; omega)
    have len5 : d5.length < sizeLine := small1000 (by rw [k5.length]; omega)
    have off5 : valV d5 (Sum.inr fn) = none := k5.none fun x hx e => n5 (by rw [← e]; exact List.mem_map.mpr ⟨x, hx, rfl⟩)
    refine ⟨_, rfl, l, txs tks, rfl, .inl ⟨SqL.of hlA, fun tt htt => ?_⟩⟩
    have c2 : Kb [] HA (upd HA tt (.tup (txs tks))) := kb_new htt
    refine ⟨_, rfl, g, C, A.dx, _, _, rfl, c2 _ _ BA.g0 (by simp), X.cl, X.n2, rfl, _, rfl, A.t, _, rfl, DPut.k (k := Sum.inr fn) (c2 _ _ e2 (by simp)) len2, ?_⟩
    have k03 : Kb [A.t] HA (wH3 A HA d2 fn tks tt) := (kb_new htt).trans (kb_upd (by simp))
    have k34 : Kb [A.v] (wH3 A HA d2 fn tks tt) (wH4 A HA d2 d3 fn gv tks tt) := kb_upd (by simp)
    have k45 : Kb [A.a] (wH4 A HA d2 d3 fn gv tks tt) (wH5 A HA d2 d3 d4 fn gv tks .non tt) := kb_upd (by simp)
    have v3 := k03 _ _ e3 (by simpa using fun z => tv z.symm)
    have a3 := k03 _ _ e4 (by simpa using fun z => ta z.symm)
    have r3' := k03 _ _ e5 (by simpa using fun z => tr z.symm)
    have a4 := k34 _ _ a3 (by simpa using fun z => va z.symm)
    have r4' := k34 _ _ r3' (by simpa using fun z => vr z.symm)
    have r5' := k45 _ _ r4' (by simpa using fun z => ar z.symm)
    have q3 : ∀ b o, HA b = some o → (∀ d, o ≠ .dK d) → wH3 A HA d2 fn tks tt b = some o := fun b o e hd => k03 _ _ e (offd e e2 hd)
    have q4 : ∀ b o, HA b = some o → (∀ d, o ≠ .dK d) → wH4 A HA d2 d3 fn gv tks tt b = some o := fun b o e hd => k34 _ _ (q3 b o e hd) (offd (q3 b o e hd) v3 hd)
    have q5 : ∀ b o, HA b = some o → (∀ d, o ≠ .dK d) → wH5 A HA d2 d3 d4 fn gv tks .non tt b = some o := fun b o e hd => k45 _ _ (q4 b o e hd) (offd (q4 b o e hd) a4 hd)
    have isd : ∀ {x y : Addr} {fs : List (Str × V)}, ∀ d, HO.ins x y fs ≠ .dK d := fun d z => by cases z
    have isl : ∀ {xs : List V}, ∀ d, HO.lst xs ≠ .dK d := fun d z => by cases z
    refine ⟨_, rfl, _, rfl, g, C, A.dx, _, _, rfl, q3 _ _ BA.g0 isd, X.cl, X.n3, rfl, _, rfl, A.v, _, rfl, DPut.k (k := Sum.inr fn) v3 len3, ?_⟩
    refine ⟨_, rfl, _, rfl, g, C, A.dx, _, _, rfl, q4 _ _ BA.g0 isd, X.cl, X.n4, rfl, _, rfl, A.a, _, rfl, DPut.k (k := Sum.inr fn) a4 len4, ?_⟩
    refine ⟨Nat.zero_le _, fun u hu => ?_⟩
    have c6 : Kb [] (wH5 A HA d2 d3 d4 fn gv tks .non tt) (upd (wH5 A HA d2 d3 d4 fn gv tks .non tt) u (.tup [])) := kb_new hu
    refine ⟨_, rfl, g, C, A.dx, _, _, rfl, c6 _ _ (q5 _ _ BA.g0 isd) (by simp), X.cl, X.n5, rfl, _, rfl, A.r, _, rfl, DPut.k (k := Sum.inr fn) (c6 _ _ r5' (by simp)) len5, ?_⟩
    have k57 : Kb [A.r] (wH5 A HA d2 d3 d4 fn gv tks .non tt) (wH7 A HA d2 d3 d4 d5 fn gv tks .non tt u) := (kb_new hu).trans (kb_upd (by simp))
    have q7 : ∀ b o, HA b = some o → (∀ d, o ≠ .dK d) → wH7 A HA d2 d3 d4 d5 fn gv tks .non tt u b = some o := fun b o e hd => k57 _ _ (q5 b o e hd) (offd (q5 b o e hd) r5' hd)
    have r7 : wH7 A HA d2 d3 d4 d5 fn gv tks .non tt u A.r = some (.dK (putK d5 (.inr fn) (.ref u))) := upd_same
    refine ⟨_, rfl, _, rfl, p, r, [], [], rfl, SqL.of (q7 _ _ pA isl), SqL.of (q7 _ _ hrA isl), fun i m σ' H' => i = 0 ∧ σ' = [some (V.ref g), some (V.ref t), some (V.str fn), some (V.ref l), some (V.str gv), some .non, some (V.ref r), some (V.ref p), none, none, none] ∧ H' = wH7 A HA d2 d3 d4 d5 fn gv tks .non tt u, ⟨0, rfl, rfl, rfl⟩, ?_⟩
    rintro i m σ' H' ⟨rfl, rfl, rfl⟩
    refine .inl ⟨⟨[], [], SqL.of (q7 _ _ pA isl), SqL.of (q7 _ _ hrA isl), .inl (Nat.le_refl _)⟩, ?_⟩
    refine ⟨_, rfl, r, [], rfl, .inl ⟨SqL.of (q7 _ _ hrA isl), fun q' hq' => ?_⟩⟩
    have c8 : Kb [] (wH7 A HA d2 d3 d4 d5 fn gv tks .non tt u) (upd (wH7 A HA d2 d3 d4 d5 fn gv tks .non tt u) q' (.tup [])) := kb_new hq'
    refine ⟨_, rfl, g, C, A.dx, _, _, rfl, c8 _ _ (q7 _ _ BA.g0 isd) (by simp), X.cl, X.n5, rfl, _, rfl, A.r, _, rfl, DPut.k (k := Sum.inr fn) (c8 _ _ r7 (by simp)) (small1000 (by rw [putK_new off5, List.length_append, k5.length]; show rs.length + 1 ≤ 1000; omega)), ?_⟩
    obtain ⟨b1, b2⟩ := bld_work (rv := []) BA e2 k2 e3 k3 e4 k4 e5 k5 n2 n3 n4 n5 htt hu hq'
    have tabs : ∀ {Y : Addr}, TabG HA Y → TabG (wH9 A HA d2 d3 d4 d5 fn gv tks .non [] tt u q') Y := fun {Y} ⟨ps, hps, hz⟩ => ⟨ps, b2 _ _ hps (by
      intro z
      simp only [List.mem_cons, List.not_mem_nil, or_false] at z
      rcases z with z | z | z | z
      · rw [z, e2] at hps; cases hps
      · rw [z, e3] at hps; cases hps
      · rw [z, e4] at hps; cases hps
      · rw [z, e5] at hps; cases hps), hz⟩
    exact k _ b1 (keptA.trans fun b o e s1 s2 s3 s4 s5 s6 => b2 b o e (by simp only [List.mem_cons, List.not_mem_nil, or_false, not_or]; exact ⟨s2, s3, s4, s5⟩)) (tabs hTA) (tabs hT3A)
  · obtain ⟨rfl, y⟩ := y
    have hx := y _ (SqL.of (tget q hT31 hl1 (by intro q z; cases z)))
    have hm : tks[i]? = some tks[i] := List.getElem?_eq_getElem hi
    generalize tks[i] = m at hm
    have ex : x = V.str m := by
      simp only [List.getElem?_map, hm, Option.map_some] at hx
      exact (Option.some.inj hx).symm
    subst ex
    have B4 := B1.tab q hT31
    obtain ⟨D2, G2, hk2⟩ := isK B4 (htk m (List.mem_of_getElem? hm))
    refine ⟨_, rfl, g, A.dx, _, rfl, B4.g0, gf_no (by decide +kernel), _, rfl, g, .str m, some m, D2, rfl, G2, rfl, _, rfl, fun hc => ?_, fun _ => q⟩
    rw [hk2] at hc
    cases hc
end
end GN

/-! GN12: Ground.__init__ of good kinds and good open works. -/
namespace GN
open PySem PySem.Spec PyProof.Rows L2 GenW GxR NdefX GX
abbrev KD := Str × List (Str × List Str)
abbrev WD := Str × List Str × Str
def ksOf (l : List KD) : List (Str × List Str) := l.map fun k => (k.1, nams k.2)
def tsOf (l : List KD) : List (Str × List Str) := l.flatMap (·.2)
def gsOf (l : List KD) : List (Str × Str) := l.flatMap fun k => gvs k.1 k.2
def twOf (l : List WD) : List (Str × List Str) := l.map fun x => (x.1, x.2.1)
def gwOf (l : List WD) : List (Str × Str) := l.map fun x => (x.1, x.2.2)
def fwOf (l : List WD) : List (Str × V) := l.map fun x => (x.1, V.non)
def rwOf (l : List WD) : List (Str × List V) := l.map fun x => (x.1, ([] : List V))
/-- a kind, an open work as handed in -/
def KdAt (H : Hp) (v : V) (x : KD) : Prop := ∃ m l vl, v = .ref m ∧ H m = some (.tup [.str x.1, .ref l]) ∧ H l = some (.lst vl) ∧ LsR (MkAt H) vl x.2
def WkAt (H : Hp) (v : V) (x : WD) : Prop := ∃ m l r, v = .ref m ∧ H m = some (.tup [.str x.1, .ref l, .str x.2.2, .non, .ref r]) ∧ H l = some (.lst (txs x.2.1)) ∧ H r = some (.lst [])
structure GoodW (ks ts : List (Str × List Str)) (gs : List (Str × Str)) (fs : List (Str × V)) (rs : List (Str × List V)) (x : WD) : Prop where
  few : x.2.1.length ≤ 4
  name : isNameB x.1 = true
  n1 : x.1 ∉ nams ks
  n2 : x.1 ∉ nams ts
  n3 : x.1 ∉ nams gs
  n4 : x.1 ∉ nams fs
  n5 : x.1 ∉ nams rs
  ndk : (nams ks).Nodup
  tk : ∀ y ∈ x.2.1, y ∈ nams ks
  gv : x.2.2 ∈ nams ks
  l2 : ts.length ≤ 1000
  l3 : gs.length ≤ 1000
  l4 : fs.length ≤ 100
  l5 : rs.length ≤ 100
/-- all of a ground of open works is good -/
structure GoodG (kds : List KD) (wks : List WD) : Prop where
  lk : kds.length ≤ 8
  lw : wks.length ≤ 16
  kd : ∀ i x, kds[i]? = some x → GoodK (ksOf (kds.take i)) (tsOf (kds.take i)) (gsOf (kds.take i)) x.1 x.2
  wk : ∀ i x, wks[i]? = some x → GoodW (ksOf kds) (tsOf kds ++ twOf (wks.take i)) (gsOf kds ++ gwOf (wks.take i)) (fwOf (wks.take i)) (rwOf (wks.take i)) x
/-- the ground that it makes -/
def Made (C g : Addr) (A : GA) (H : Hp) (kds : List KD) (wks : List WD) : Prop := Bld C g A H (ksOf kds) (tsOf kds ++ twOf wks) (gsOf kds ++ gwOf wks) (fwOf wks) (rwOf wks)
theorem KeptK.kdAt {C g : Addr} {A : GA} {Ts : List Addr} {H H' : Hp} {ks ts : List (Str × List Str)} {gs : List (Str × Str)} {fs : List (Str × V)} {rs : List (Str × List V)} (h : KeptK A Ts H H') (B : Bld C g A H ks ts gs fs rs) (hT : ∀ T ∈ Ts, TabG H T) {v : V} {x : KD} (m : KdAt H v x) : KdAt H' v x := by
  obtain ⟨a, l, vl, e, h1, h2, h3⟩ := m
  exact ⟨a, l, vl, e, h.get B hT h1 (by intro d z; cases z) (by intro d z; cases z), h.get B hT h2 (by intro d z; cases z) (by intro d z; cases z), h3.mono fun v x m => h.mkAt B hT m⟩
theorem KeptK.wkAt {C g : Addr} {A : GA} {Ts : List Addr} {H H' : Hp} {ks ts : List (Str × List Str)} {gs : List (Str × Str)} {fs : List (Str × V)} {rs : List (Str × List V)} (h : KeptK A Ts H H') (B : Bld C g A H ks ts gs fs rs) (hT : ∀ T ∈ Ts, TabG H T) {v : V} {x : WD} (m : WkAt H v x) : WkAt H' v x := by
  obtain ⟨a, l, r, e, h1, h2, h3⟩ := m
  exact ⟨a, l, r, e, h.get B hT h1 (by intro d z; cases z) (by intro d z; cases z), h.get B hT h2 (by intro d z; cases z) (by intro d z; cases z), h.get B hT h3 (by intro d z; cases z) (by intro d z; cases z)⟩
theorem KeptK.wide {A : GA} {Ts Ts' : List Addr} {H H1 : Hp} (h : KeptK A Ts H H1) (s : ∀ T ∈ Ts, T ∈ Ts') : KeptK A Ts' H H1 := fun b o e h1 h2 h3 h4 h5 h6 => h b o e h1 h2 h3 h4 h5 fun z => h6 (s _ z)
theorem KeptK.tabG {C g : Addr} {A : GA} {Ts : List Addr} {H H' : Hp} {ks ts : List (Str × List Str)} {gs : List (Str × Str)} {fs : List (Str × V)} {rs : List (Str × List V)} {Y : Addr} (h : KeptK A Ts H H') (B : Bld C g A H ks ts gs fs rs) (hY : TabG H Y) (n : Y ∉ Ts) : TabG H' Y := by
  obtain ⟨ps, hp, ht⟩ := hY
  obtain ⟨d1, e1, _⟩ := B.ms
  obtain ⟨d2, e2, _⟩ := B.ts
  obtain ⟨d3, e3, _⟩ := B.gs
  obtain ⟨d4, e4, _⟩ := B.fs
  obtain ⟨d5, e5, _⟩ := B.rs
  refine ⟨ps, h Y _ hp (fun z => ?_) (fun z => ?_) (fun z => ?_) (fun z => ?_) (fun z => ?_) n, ht⟩
  · rw [z, e1] at hp; cases hp
  · rw [z, e2] at hp; cases hp
  · rw [z, e3] at hp; cases hp
  · rw [z, e4] at hp; cases hp
  · rw [z, e5] at hp; cases hp
section
variable {P : Program} {w : World} {K : PySem.W.Frag} {mg : Str → Option Value} {base : Heap} {f C T T2 T3 W : Addr} {fd : FuncData}
theorem sc0 : FnScope ["self", "kinds", "works", "kind", "work"] ["self", "kinds", "works"] (defScope (met 0)) := ⟨rfl, rfl, rfl, by decide +kernel, rfl, by decide +kernel, by decide +kernel⟩
def spInit (C T T2 T3 : Addr) : Sp := fun vs H Q _ => ∃ (g dx lk lw : Addr) (vk vw : List V) (kds : List KD) (wks : List WD), vs = [.ref g, .ref lk, .ref lw] ∧ H g = some (.ins C dx []) ∧ H lk = some (.lst vk) ∧ H lw = some (.lst vw) ∧ LsR (KdAt H) vk kds ∧ LsR (WkAt H) vw wks ∧ GoodG kds wks ∧
  TabG H T ∧ TabG H T2 ∧ TabG H T3 ∧ T2 ≠ T ∧ T3 ≠ T ∧ T3 ≠ T2 ∧ ∀ H' A, Made C g A H' kds wks → (∀ b o, H b = some o → b ≠ g → b ∉ [T, T2, T3] → H' b = some o) → TabG H' T → TabG H' T2 → TabG H' T3 → Q .non H'
theorem put5 {a b c d e : Addr} : putF "_rights" (.ref e) (putF "_falls_at" (.ref d) (putF "_gives" (.ref c) (putF "_takes" (.ref b) (putF "_makers" (.ref a) [])))) = gf a b c d e := by
  have h1 : ¬ ("_makers" : Str) = "_takes" := by decide +kernel
  have h2 : ¬ ("_makers" : Str) = "_gives" := by decide +kernel
  have h3 : ¬ ("_makers" : Str) = "_falls_at" := by decide +kernel
  have h4 : ¬ ("_makers" : Str) = "_rights" := by decide +kernel
  have h5 : ¬ ("_takes" : Str) = "_gives" := by decide +kernel
  have h6 : ¬ ("_takes" : Str) = "_falls_at" := by decide +kernel
  have h7 : ¬ ("_takes" : Str) = "_rights" := by decide +kernel
  have h8 : ¬ ("_gives" : Str) = "_falls_at" := by decide +kernel
  have h9 : ¬ ("_gives" : Str) = "_rights" := by decide +kernel
  have h10 : ¬ ("_falls_at" : Str) = "_rights" := by decide +kernel
  unfold gf
  simp only [putF, if_neg h1, if_neg h2, if_neg h3, if_neg h4, if_neg h5, if_neg h6, if_neg h7, if_neg h8, if_neg h9, if_neg h10]
/-- a field of the new object: a new dict -/
def stF (C dx g : Addr) (H : Hp) (fs : List (Str × V)) (d : Addr) (f : Str) : Hp := upd (upd H d (.dK [])) g (.ins C dx (putF f (.ref d) fs))
theorem stF_keep {C dx g d : Addr} {H : Hp} {fs : List (Str × V)} {f : Str} (hd : H d = none) {b : Addr} {o : HO} (e : H b = some o) (n : b ≠ g) : stF C dx g H fs d f b = some o := by
  unfold stF
  rw [upd_ne n, upd_ne (ne_of_none e hd)]
  exact e
theorem stF_new {C dx g d : Addr} {H : Hp} {fs : List (Str × V)} {f : Str} {o : HO} (hg : H g = some o) (hd : H d = none) : stF C dx g H fs d f d = some (.dK []) := by
  unfold stF
  rw [upd_ne (ne_of_none hg hd).symm]
  exact upd_same
theorem stF_g {C dx g d : Addr} {H : Hp} {fs : List (Str × V)} {f : Str} : stF C dx g H fs d f g = some (.ins C dx (putF f (.ref d) fs)) := upd_same
abbrev f1 (m : Addr) : List (Str × V) := putF "_makers" (.ref m) []
abbrev f2 (m t : Addr) : List (Str × V) := putF "_takes" (.ref t) (f1 m)
abbrev f3 (m t v : Addr) : List (Str × V) := putF "_gives" (.ref v) (f2 m t)
abbrev f4 (m t v a : Addr) : List (Str × V) := putF "_falls_at" (.ref a) (f3 m t v)
def iS1 (C dx g : Addr) (H : Hp) (m : Addr) : Hp := stF C dx g H [] m "_makers"
def iS2 (C dx g : Addr) (H : Hp) (m t : Addr) : Hp := stF C dx g (iS1 C dx g H m) (f1 m) t "_takes"
def iS3 (C dx g : Addr) (H : Hp) (m t v : Addr) : Hp := stF C dx g (iS2 C dx g H m t) (f2 m t) v "_gives"
def iS4 (C dx g : Addr) (H : Hp) (m t v a : Addr) : Hp := stF C dx g (iS3 C dx g H m t v) (f3 m t v) a "_falls_at"
def iS5 (C dx g : Addr) (H : Hp) (m t v a r : Addr) : Hp := stF C dx g (iS4 C dx g H m t v a) (f4 m t v a) r "_rights"
theorem init_bld {dx g m t v a r : Addr} {H : Hp} (hg : H g = some (.ins C dx [])) (hm : H m = none) (ht : iS1 C dx g H m t = none) (hv : iS2 C dx g H m t v = none) (ha : iS3 C dx g H m t v a = none) (hr : iS4 C dx g H m t v a r = none) :
    Bld C g ⟨dx, m, t, v, a, r⟩ (iS5 C dx g H m t v a r) [] [] [] [] [] ∧ ∀ b o, H b = some o → b ≠ g → iS5 C dx g H m t v a r b = some o := by
  have g1 : iS1 C dx g H m g = some (.ins C dx (f1 m)) := stF_g
  have g2 : iS2 C dx g H m t g = some (.ins C dx (f2 m t)) := stF_g
  have g3 : iS3 C dx g H m t v g = some (.ins C dx (f3 m t v)) := stF_g
  have g4 : iS4 C dx g H m t v a g = some (.ins C dx (f4 m t v a)) := stF_g
  have g5 : iS5 C dx g H m t v a r g = some (.ins C dx (gf m t v a r)) := by rw [← put5]; exact stF_g
  have nm : m ≠ g := (ne_of_none hg hm).symm
  have nt : t ≠ g := (ne_of_none g1 ht).symm
  have nv : v ≠ g := (ne_of_none g2 hv).symm
  have na : a ≠ g := (ne_of_none g3 ha).symm
  have nr : r ≠ g := (ne_of_none g4 hr).symm
  have m1 : iS1 C dx g H m m = some (.dK []) := stF_new hg hm
  have m2 : iS2 C dx g H m t m = some (.dK []) := stF_keep ht m1 nm
  have t2 : iS2 C dx g H m t t = some (.dK []) := stF_new g1 ht
  have m3 : iS3 C dx g H m t v m = some (.dK []) := stF_keep hv m2 nm
  have t3 : iS3 C dx g H m t v t = some (.dK []) := stF_keep hv t2 nt
  have v3 : iS3 C dx g H m t v v = some (.dK []) := stF_new g2 hv
  have m4 : iS4 C dx g H m t v a m = some (.dK []) := stF_keep ha m3 nm
  have t4 : iS4 C dx g H m t v a t = some (.dK []) := stF_keep ha t3 nt
  have v4 : iS4 C dx g H m t v a v = some (.dK []) := stF_keep ha v3 nv
  have a4 : iS4 C dx g H m t v a a = some (.dK []) := stF_new g3 ha
  have m5 : iS5 C dx g H m t v a r m = some (.dK []) := stF_keep hr m4 nm
  have t5 : iS5 C dx g H m t v a r t = some (.dK []) := stF_keep hr t4 nt
  have v5 : iS5 C dx g H m t v a r v = some (.dK []) := stF_keep hr v4 nv
  have a5 : iS5 C dx g H m t v a r a = some (.dK []) := stF_keep hr a4 na
  have r5 : iS5 C dx g H m t v a r r = some (.dK []) := stF_new g4 hr
  refine ⟨⟨?_, g5, ⟨[], m5, trivial⟩, ⟨[], t5, trivial⟩, ⟨[], v5, trivial⟩, ⟨[], a5, trivial⟩, ⟨[], r5, trivial⟩⟩, fun b o e n => stF_keep hr (stF_keep ha (stF_keep hv (stF_keep ht (stF_keep hm e n) n) n) n) n⟩
  simp only [List.nodup_cons, List.mem_cons, List.not_mem_nil, or_false, not_or, List.nodup_nil, not_false_eq_true, and_true]
  exact ⟨⟨ne_of_none m1 ht, ne_of_none m2 hv, ne_of_none m3 ha, ne_of_none m4 hr⟩, ⟨ne_of_none t2 hv, ne_of_none t3 ha, ne_of_none t4 hr⟩, ⟨ne_of_none v3 ha, ne_of_none v4 hr⟩, ne_of_none a4 hr⟩
theorem ok_init {fk fw : Addr} {fdk fdw : FuncData} (F : Fun K "__init__" "Ground.__init__" (met 0) f fd) (X : TxtG K mg C) (X2 : TxtC K mg) (Df : Defs P w K mg base T W)
    (Mk : Meth K C "_add_kind" fk) (Gk : FnOk P w K mg base CX0 6 fk fdk ["self", "told"] (spAddKind C T T2)) (bk : Binds K fdk ["self", "told"] [])
    (Mw : Meth K C "_add_work" fw) (Gw : FnOk P w K mg base CX0 6 fw fdw ["self", "told"] (spAddWork0 C T T3)) (bw : Binds K fdw ["self", "told"] []) : FnOk P w K mg base CX0 7 f fd ["self", "kinds", "works"] (spInit C T T2 T3) := by
  refine F.ok sc0 (fun vs H Q E h => ?_) (fun cdv A0 outer s H vs Q E hr h => ?_)
  · obtain ⟨g, dx, lk, lw, vk, vw, kds, wks, rfl, _⟩ := h
    rfl
  obtain ⟨g, dx, lk, lw, vk, vw, kds, wks, rfl, hg, hlk, hlw, rk, rw', GG, hT, hT2, hT3, n21, n31, n32, k⟩ := h
  obtain ⟨tmk, emk⟩ := X2.mkd
  obtain ⟨tmw, emw⟩ := X2.mw
  refine ⟨_, pss_cons (ps_fld (pv 0) pe_dnewK rfl) (pss_cons (ps_fld (pv 0) pe_dnewK rfl) (pss_cons (ps_fld (pv 0) pe_dnewK rfl) (pss_cons (ps_fld (pv 0) pe_dnewK rfl) (pss_cons (ps_fld (pv 0) pe_dnewK rfl)
    (pss_cons (ps_expr (pe_call Df.need (hr.mono (by decide)) rfl Df.mneed Df.kneed Df.bneed .nil pass0 (pa_cons (pe_call Df.isl (hr.mono (by decide)) rfl Df.misl Df.kisl Df.bisl .nil pass0 (pa_cons (pv 1) (pa_cons (pe_glob (v := .int 8) rfl emk ⟨_, rfl⟩) pa_nil))) (pa_cons pe_str pa_nil))))
    (pss_cons (ps_expr (pe_call Df.need (hr.mono (by decide)) rfl Df.mneed Df.kneed Df.bneed .nil pass0 (pa_cons (pe_call Df.isl (hr.mono (by decide)) rfl Df.misl Df.kisl Df.bisl .nil pass0 (pa_cons (pv 2) (pa_cons (pe_glob (v := .int 16) rfl emw ⟨_, rfl⟩) pa_nil))) (pa_cons pe_str pa_nil))))
    (pss_cons (ps_for PassesOwn.never rfl (pi_list (pv 1)) (pg_name (i := 3) sc0.nd rfl (Or.inl rfl)) (pss_one (ps_expr (pe_meth (pv 0) X.cl Mk Gk hr bk .nil pass0 (pa_cons (pv 3) pa_nil)))))
    (pss_one (ps_for PassesOwn.never rfl (pi_list (pv 2)) (pg_name (i := 4) sc0.nd rfl (Or.inl rfl)) (pss_one (ps_expr (pe_meth (pv 0) X.cl Mw Gw hr bw .nil pass0 (pa_cons (pv 4) pa_nil))))))))))))), ?_⟩
  intro m hm
  refine ⟨_, rfl, g, C, dx, [], rfl, by rw [upd_ne (ne_of_none hg hm)]; exact hg, X.cl, X.n1, by show 0 < 1000; decide, ?_⟩
  intro t ht
  have ht : iS1 C dx g H m t = none := ht
  have g1 : iS1 C dx g H m g = some (.ins C dx (f1 m)) := stF_g
  refine ⟨_, rfl, g, C, dx, _, rfl, (upd_ne (ne_of_none g1 ht)).trans g1, X.cl, X.n2, by show 1 < 1000; decide, ?_⟩
  intro v hv
  have hv : iS2 C dx g H m t v = none := hv
  have g2 : iS2 C dx g H m t g = some (.ins C dx (f2 m t)) := stF_g
  refine ⟨_, rfl, g, C, dx, _, rfl, (upd_ne (ne_of_none g2 hv)).trans g2, X.cl, X.n3, by show 2 < 1000; decide, ?_⟩
  intro a ha
  have ha : iS3 C dx g H m t v a = none := ha
  have g3 : iS3 C dx g H m t v g = some (.ins C dx (f3 m t v)) := stF_g
  refine ⟨_, rfl, g, C, dx, _, rfl, (upd_ne (ne_of_none g3 ha)).trans g3, X.cl, X.n4, by show 3 < 1000; decide, ?_⟩
  intro r hr'
  have hr' : iS4 C dx g H m t v a r = none := hr'
  have g4 : iS4 C dx g H m t v a g = some (.ins C dx (f4 m t v a)) := stF_g
  refine ⟨_, rfl, g, C, dx, _, rfl, (upd_ne (ne_of_none g4 hr')).trans g4, X.cl, X.n5, by show 4 < 1000; decide, ?_⟩
  obtain ⟨B0, K0⟩ := init_bld hg hm ht hv ha hr'
  have ng : ∀ {b : Addr} {o : HO}, H b = some o → (∀ x y z, o ≠ .ins x y z) → b ≠ g := fun {b o} e n z => by rw [z, hg] at e; cases e; exact n _ _ _ rfl
  have keep : ∀ b o, H b = some o → (∀ x y z, o ≠ .ins x y z) → iS5 C dx g H m t v a r b = some o := fun b o e n => K0 b o e (ng e n)
  have tab5 : ∀ {Y : Addr}, TabG H Y → TabG (iS5 C dx g H m t v a r) Y := fun {Y} ⟨ps, hp, hq⟩ => ⟨ps, keep _ _ hp (by intro x y z q; cases q), hq⟩
  have hlk5 := keep _ _ hlk (by intro x y z q; cases q)
  have hlw5 := keep _ _ hlw (by intro x y z q; cases q)
  have rk5 : LsR (KdAt (iS5 C dx g H m t v a r)) vk kds := rk.mono fun u x ⟨b, l, vl, e, q1, q2, q3⟩ => ⟨b, l, vl, e, keep _ _ q1 (by intro x y z q; cases q), keep _ _ q2 (by intro x y z q; cases q),
    q3.mono fun u x ⟨b, l, e, q1, q2⟩ => ⟨b, l, e, keep _ _ q1 (by intro x y z q; cases q), keep _ _ q2 (by intro x y z q; cases q)⟩⟩
  have rw5 : LsR (WkAt (iS5 C dx g H m t v a r)) vw wks := rw'.mono fun u x ⟨b, l, r', e, q1, q2, q3⟩ => ⟨b, l, r', e, keep _ _ q1 (by intro x y z q; cases q), keep _ _ q2 (by intro x y z q; cases q), keep _ _ q3 (by intro x y z q; cases q)⟩
  have hT5 := tab5 hT
  have hT25 := tab5 hT2
  have hT35 := tab5 hT3
  have d1 : decide ((vk.length : Int) ≤ 8) = true := decide_eq_true (by rw [rk.length]; have := GG.lk; omega)
  have d2 : decide ((vw.length : Int) ≤ 16) = true := decide_eq_true (by rw [rw'.length]; have := GG.lw; omega)
  refine ⟨_, rfl, lk, vk, 8, rfl, hlk5, ?_⟩
  refine ⟨_, congrArg (fun b => [V.bl b, V.str "kinds are a list of at most eight"]) d1, ?_⟩
  refine ⟨_, rfl, lw, vw, 16, rfl, hlw5, ?_⟩
  refine ⟨_, congrArg (fun b => [V.bl b, V.str "works are a list of at most sixteen"]) d2, ?_⟩
  have TT5 : ∀ X ∈ [T, T2, T3], TabG (iS5 C dx g H m t v a r) X := fun X hX => by
    simp only [List.mem_cons, List.not_mem_nil, or_false] at hX
    rcases hX with rfl | rfl | rfl
    · exact hT5
    · exact hT25
    · exact hT35
  have isl : ∀ {xs : List V}, ∀ d, HO.lst xs ≠ .dK d := fun d z => by cases z
  have isl' : ∀ {xs : List V}, ∀ d, HO.lst xs ≠ .tbl d := fun d z => by cases z
  refine ⟨_, rfl, lk, rfl, ⟨_, SqL.of hlk5⟩, for_list (xs := vk) (fun i σ' H' => (∃ o, σ' = [some (V.ref g), some (V.ref lk), some (V.ref lw), o, none]) ∧ Bld C g ⟨dx, m, t, v, a, r⟩ H' (ksOf (kds.take i)) (tsOf (kds.take i)) (gsOf (kds.take i)) [] [] ∧
      KeptK ⟨dx, m, t, v, a, r⟩ [T, T2, T3] (iS5 C dx g H m t v a r) H' ∧ TabG H' T ∧ TabG H' T2 ∧ TabG H' T3)
    ⟨⟨_, rfl⟩, B0, KeptK.refl, hT5, hT25, hT35⟩ (fun i σ' H' _ q => SqL.of (q.2.2.1.get B0 TT5 hlk5 isl isl')) (fun i x σ' H' hx q => ?_) (fun σ' H' q => ?_)⟩
  · obtain ⟨⟨o, rfl⟩, BB, KK, t1, t2, t3⟩ := q
    obtain ⟨kd, hm', mA⟩ := rk5.get hx
    obtain ⟨b, l, vl, rfl, q1, q2, q3⟩ := KK.kdAt B0 TT5 mA
    have gd := GG.kd i kd hm'
    have et : kds.take (i + 1) = kds.take i ++ [kd] := by rw [List.take_succ, hm']; rfl
    refine ⟨_, rfl, g, dx, _, rfl, BB.g0, gf_no (by decide +kernel), _, rfl, g, kd.1, b, l, vl, kd.2, ⟨dx, m, t, v, a, r⟩, _, _, _, _, _, rfl, BB, q1, q2, q3, gd, t1, t2, n21, fun H'' b'' k'' u1 u2 => ?_⟩
    refine ⟨⟨_, rfl⟩, ?_, KK.trans (k''.wide (by simp)), u1, u2, k''.tabG BB t3 (by simp [n31, n32])⟩
    rw [et]
    simpa [ksOf, tsOf, gsOf] using b''
  · obtain ⟨⟨o, rfl⟩, BB, KK, t1, t2, t3⟩ := q
    rw [rk.length, List.take_length] at BB
    have hlw6 := KK.get B0 TT5 hlw5 isl isl'
    refine ⟨_, rfl, lw, rfl, ⟨_, SqL.of hlw6⟩, for_list (xs := vw) (fun i σ' H3 => (∃ o o2, σ' = [some (V.ref g), some (V.ref lk), some (V.ref lw), o, o2]) ∧ Bld C g ⟨dx, m, t, v, a, r⟩ H3 (ksOf kds) (tsOf kds ++ twOf (wks.take i)) (gsOf kds ++ gwOf (wks.take i)) (fwOf (wks.take i)) (rwOf (wks.take i)) ∧
        KeptK ⟨dx, m, t, v, a, r⟩ [T, T2, T3] (iS5 C dx g H m t v a r) H3 ∧ TabG H3 T ∧ TabG H3 T2 ∧ TabG H3 T3)
      ⟨⟨_, _, rfl⟩, by simpa [twOf, gwOf, fwOf, rwOf] using BB, KK, t1, t2, t3⟩ (fun i σ' H3 _ q => SqL.of (q.2.2.1.get B0 TT5 hlw5 isl isl')) (fun i x σ' H3 hx q => ?_) (fun σ' H3 q => ?_)⟩
    · obtain ⟨⟨o, o2, rfl⟩, BB, KK, t1, t2, t3⟩ := q
      obtain ⟨wk, hm', mA⟩ := rw5.get hx
      obtain ⟨b, l, r', rfl, q1, q2, q3⟩ := KK.wkAt B0 TT5 mA
      have gw := GG.wk i wk hm'
      have et : wks.take (i + 1) = wks.take i ++ [wk] := by rw [List.take_succ, hm']; rfl
      refine ⟨_, rfl, g, dx, _, rfl, BB.g0, gf_no (by decide +kernel), _, rfl, g, wk.1, wk.2.2, b, l, r', wk.2.1, ⟨dx, m, t, v, a, r⟩, _, _, _, _, _, rfl, BB, q1, q2, q3, gw.few, gw.name, gw.n1, gw.n2, gw.n3, gw.n4, gw.n5, gw.ndk, gw.tk, gw.gv, gw.l2, gw.l3, gw.l4, gw.l5, t1, t3, n31, fun H'' b'' k'' u1 u2 => ?_⟩
      refine ⟨⟨_, _, rfl⟩, ?_, KK.trans (k''.wide (by simp)), u1, k''.tabG BB t2 (by simp [n21, Ne.symm n32]), u2⟩
      rw [et]
      simpa [twOf, gwOf, fwOf, rwOf] using b''
    · obtain ⟨⟨o, o2, rfl⟩, BB, KK, t1, t2, t3⟩ := q
      rw [rw'.length, List.take_length] at BB
      refine k H3 _ BB (fun b o e n nT => ?_) t1 t2 t3
      have x1 : iS1 C dx g H m b = some o := stF_keep hm e n
      have x2 : iS2 C dx g H m t b = some o := stF_keep ht x1 n
      have x3 : iS3 C dx g H m t v b = some o := stF_keep hv x2 n
      have x4 : iS4 C dx g H m t v a b = some o := stF_keep ha x3 n
      exact KK b o (K0 b o e n) (ne_of_none e hm) (ne_of_none x1 ht) (ne_of_none x2 hv) (ne_of_none x3 ha) (ne_of_none x4 hr') nT
end
end GN

/-! DD1: things of any kind, in the heap and by themselves; what is a term's kind, what a saying. -/
namespace Q3
open PySem PySem.Spec PyProof.Rows L2
inductive D where
  | non
  | bl (b : Bool)
  | int (i : Int)
  | str (x : Str)
  | tup (xs : List D)
  | lst (xs : List D)
  | dct
/-- what things are made of stays -/
def Kp (M : List Addr) (H H' : Hp) : Prop := ∀ a o, a ∉ M → H a = some o → H' a = some o
mutual
inductive DS (M : List Addr) (H : Hp) : V → D → Prop
  | non : DS M H .non .non
  | bl {b : Bool} : DS M H (.bl b) (.bl b)
  | int {i : Int} : DS M H (.int i) (.int i)
  | str {x : Str} : x.length ≤ 1000 → DS M H (.str x) (.str x)
  | tup {a : Addr} {vs : List V} {ds : List D} : a ∉ M → H a = some (.tup vs) → DSL M H vs ds → DS M H (.ref a) (.tup ds)
  | lst {a : Addr} {vs : List V} {ds : List D} : a ∉ M → H a = some (.lst vs) → DSL M H vs ds → DS M H (.ref a) (.lst ds)
  | dct {a : Addr} : a ∉ M → H a = some (.dK []) → DS M H (.ref a) .dct
inductive DSL (M : List Addr) (H : Hp) : List V → List D → Prop
  | nil : DSL M H [] []
  | cons {v : V} {vs : List V} {d : D} {ds : List D} : DS M H v d → DSL M H vs ds → DSL M H (v :: vs) (d :: ds)
end
mutual
theorem DS.mono {M : List Addr} {H H' : Hp} (k : Kp M H H') : ∀ {v : V} {d : D}, DS M H v d → DS M H' v d
  | _, _, .non => .non
  | _, _, .bl => .bl
  | _, _, .int => .int
  | _, _, .str h => .str h
  | _, _, .tup n e l => .tup n (k _ _ n e) (DSL.mono k l)
  | _, _, .lst n e l => .lst n (k _ _ n e) (DSL.mono k l)
  | _, _, .dct n e => .dct n (k _ _ n e)
theorem DSL.mono {M : List Addr} {H H' : Hp} (k : Kp M H H') : ∀ {vs : List V} {ds : List D}, DSL M H vs ds → DSL M H' vs ds
  | _, _, .nil => .nil
  | _, _, .cons a b => .cons (DS.mono k a) (DSL.mono k b)
end
mutual
theorem DS.fresh {M : List Addr} {H : Hp} {x : Addr} (hx : H x = none) : ∀ {v : V} {d : D}, DS M H v d → DS (x :: M) H v d
  | _, _, .non => .non
  | _, _, .bl => .bl
  | _, _, .int => .int
  | _, _, .str h => .str h
  | _, _, .tup n e l => .tup (fun z => (List.mem_cons.mp z).elim (ne_of_none e hx) n) e (DSL.fresh hx l)
  | _, _, .lst n e l => .lst (fun z => (List.mem_cons.mp z).elim (ne_of_none e hx) n) e (DSL.fresh hx l)
  | _, _, .dct n e => .dct (fun z => (List.mem_cons.mp z).elim (ne_of_none e hx) n) e
theorem DSL.fresh {M : List Addr} {H : Hp} {x : Addr} (hx : H x = none) : ∀ {vs : List V} {ds : List D}, DSL M H vs ds → DSL (x :: M) H vs ds
  | _, _, .nil => .nil
  | _, _, .cons a b => .cons (DS.fresh hx a) (DSL.fresh hx b)
end
mutual
theorem DS.drop {M N : List Addr} {H : Hp} (s : ∀ x ∈ N, x ∈ M) : ∀ {v : V} {d : D}, DS M H v d → DS N H v d
  | _, _, .non => .non
  | _, _, .bl => .bl
  | _, _, .int => .int
  | _, _, .str h => .str h
  | _, _, .tup n e l => .tup (fun z => n (s _ z)) e (DSL.drop s l)
  | _, _, .lst n e l => .lst (fun z => n (s _ z)) e (DSL.drop s l)
  | _, _, .dct n e => .dct (fun z => n (s _ z)) e
theorem DSL.drop {M N : List Addr} {H : Hp} (s : ∀ x ∈ N, x ∈ M) : ∀ {vs : List V} {ds : List D}, DSL M H vs ds → DSL N H vs ds
  | _, _, .nil => .nil
  | _, _, .cons a b => .cons (DS.drop s a) (DSL.drop s b)
end
theorem DSL.length {M : List Addr} {H : Hp} : ∀ {vs : List V} {ds : List D}, DSL M H vs ds → vs.length = ds.length
  | _, _, .nil => rfl
  | _, _, .cons _ b => congrArg (· + 1) (DSL.length b)
theorem DSL.get {M : List Addr} {H : Hp} : ∀ {vs : List V} {ds : List D} {i : Nat} {v : V}, DSL M H vs ds → vs[i]? = some v → ∃ d, ds[i]? = some d ∧ DS M H v d
  | _, _, _, _, .nil, e => nomatch e
  | _, _, 0, _, .cons a _, e => ⟨_, rfl, by rw [← Option.some.inj e]; exact a⟩
  | _, _, i + 1, _, .cons _ b, e => DSL.get (i := i) b e
theorem DSL.snoc {M : List Addr} {H : Hp} {v : V} {d : D} (h : DS M H v d) : ∀ {vs : List V} {ds : List D}, DSL M H vs ds → DSL M H (vs ++ [v]) (ds ++ [d])
  | _, _, .nil => .cons h .nil
  | _, _, .cons a b => .cons a (DSL.snoc h b)
theorem DSL.app {M : List Addr} {H : Hp} : ∀ {vs us : List V} {ds es : List D}, DSL M H vs ds → DSL M H us es → DSL M H (vs ++ us) (ds ++ es)
  | _, _, _, _, .nil, h => h
  | _, _, _, _, .cons a b, h => .cons a (DSL.app b h)
theorem DSL.tail {M : List Addr} {H : Hp} {v : V} {vs : List V} {d : D} {ds : List D} (h : DSL M H (v :: vs) (d :: ds)) : DSL M H vs ds := by
  cases h with
  | cons _ b => exact b
/-- not higher than h -/
def dh : Nat → D → Prop
  | 0, _ => False
  | h + 1, .tup xs => xs.length ≤ 1000 ∧ ∀ x ∈ xs, dh h x
  | _ + 1, _ => True
theorem dh_le : ∀ {h h' : Nat} {d : D}, dh h d → h ≤ h' → dh h' d
  | 0, _, _, z, _ => z.elim
  | h + 1, 0, _, _, l => absurd l (by omega)
  | h + 1, h' + 1, .tup xs, q, l => ⟨q.1, fun x hx => dh_le (q.2 x hx) (by omega)⟩
  | h + 1, h' + 1, .non, _, _ => trivial
  | h + 1, h' + 1, .bl _, _, _ => trivial
  | h + 1, h' + 1, .int _, _, _ => trivial
  | h + 1, h' + 1, .str _, _, _ => trivial
  | h + 1, h' + 1, .lst _, _, _ => trivial
  | h + 1, h' + 1, .dct, _, _ => trivial
/-- what a ground tells: its kinds; of a maker or work what it takes, gives -/
structure Gr where
  ks : List Str
  tg : Str → Option (List Str × Str)
def kb (i : D) (ar : List Str) : Option Str := match i with
  | .int i => if 0 ≤ i ∧ i < ar.length then ar[i.toNat]? else none
  | _ => none
def kn (g : Gr) (x k : D) : Option Str := match x, k with
  | .str x, .str k => if GN.isNameB x = true ∧ k ∈ g.ks then some k else none
  | _, _ => none
def kmF (g : Gr) (F : D → Option Str) (f p : D) : Option Str := match f, p with
  | .str f, .tup ps => match g.tg f with
    | some (ts, gv) => if ps.map F = ts.map some then some gv else none
    | none => none
  | _, _ => none
def kindD (g : Gr) : D → Bool
  | .str k => decide (k ∈ g.ks)
  | _ => false
def strD : D → Str
  | .str k => k
  | _ => ""
/-- of which kind a thing is as a term -/
def kw (g : Gr) : Nat → D → List Str → Option Str
  | h + 1, .tup [.str wd, a], ar => if wd = "bound" then kb a ar else none
  | h + 1, .tup [.str wd, a, b], ar => if wd = "name" then kn g a b else if wd = "made" then kmF g (fun p => kw g h p ar) a b else none
  | _, _, _ => none
/-- of a made one: its kind -/
def km (g : Gr) (h : Nat) (f p : D) (ar : List Str) : Option Str := kmF g (fun p => kw g h p ar) f p
/-- whether a thing is a saying, things of the kinds ar standing around -/
def isD (g : Gr) : Nat → D → List Str → Bool
  | h + 1, .tup [.str wd], ar => decide (wd = "no")
  | h + 1, .tup [.str wd, a], ar => decide (wd = "not") && isD g h a ar
  | h + 1, .tup [.str wd, a, b], ar => if wd = "same" then (kw g h a ar).isSome && decide (kw g h a ar = kw g h b ar)
    else if wd = "and" ∨ wd = "or" ∨ wd = "so" then isD g h a ar && isD g h b ar
    else if wd = "all" ∨ wd = "some" then kindD g a && isD g h b (strD a :: ar)
    else false
  | _, _, _ => false
end Q3

/-! DD2: is_name of anything. -/
namespace GN
open PySem PySem.Spec PyProof.Rows L2 GenW GxR NdefX GX
/-- is_name of a text, of what is none -/
def spIsNameD (K : PySem.W.Frag) (W T : Addr) : Sp := fun vs H Q _ => (∃ a : Str, vs = [.str a] ∧ a.length ≤ sizeLine ∧ TabG H T ∧ ∀ H', Tabbed T H H' ∨ H' = H → Q (.bl (isNameB a)) H') ∨
  ∃ (v : V) (t : Value), vs = [v] ∧ TyX K H v t ∧ PySem.W.kitOne K t (.type "str") = some false ∧ Q (.bl false) H
section
variable {P : Program} {w : World} {K : PySem.W.Frag} {mg : Str → Option Value} {base : Heap} {f c T W : Addr} {fd : FuncData}
theorem ok_isNameD (F : FunT K "is_name" "is_name" sIsName f fd c) (X : TxtN K mg W) (TB : TabB base mg c T) : FnOk P w K mg base CX0 3 f fd ["thing"] (spIsNameD K W T) := by
  refine F.ok scIsName (fun vs H Q E h => ?_) (fun A outer s H vs Q E hr h => ?_)
  · rcases h with ⟨a, rfl, _⟩ | ⟨v, t, rfl, _⟩ <;> rfl
  obtain ⟨tl, eL⟩ := X.letters
  obtain ⟨tm, eM⟩ := X.most
  refine ⟨_, pss_cons (ps_if (PW.pt (pw_or (pt_not (pt_val (pe_callB call_isi (by rfl) X.isi boot_isi (pa_cons (pv 0) (pa_cons (pe_bltn (v := .ty "str") rfl X.str boot_strT rfl) pa_nil)))))
      (pw_or1 (pt_not (pt_chain op_le op_le pe_int (pe_callB call_len_str (by rfl) X.len PySem.boot_len (pa_cons (pv 0) pa_nil)) (pe_glob (v := .int 8) rfl eM ⟨_, rfl⟩)))))) (pss_one (ps_ret pe_bl)) pss_nil)
    (pss_one (ps_ret (pe_and (pe_cmpR op_notIn_seq (pv 0) (pe_glob (v := .ref W) rfl X.words rfl) (by rfl))
      (pe_one (pe_allGx (k := 0) (own := [("letter", 1)]) (g := gName 1) (tt := tYes) hr rfl scIsName.nd rfl X.all boot_all TB rfl (gxS (N := ["thing", "letter"]) (sc := defScope sIsName) (by decide +kernel) rfl (by decide +kernel) (by decide +kernel)) (pi_str (pv 0))
        (fun _ _ _ _ _ _ => pg_name (i := 1) scIsName.nd rfl (Or.inl rfl)) (fun _ _ _ _ _ _ _ => pts_nil) (fun _ _ _ _ _ _ _ => pe_cmpR op_in_sign (pv 1) (pe_glob (v := .str letters) rfl eL ⟨_, rfl⟩) (by rfl))))))), ?_⟩
  rcases h with ⟨a, rfl, hl, hT, k⟩ | ⟨v, t, rfl, ty, kt, k⟩
  case inr =>
    refine ⟨_, rfl, v, V.ty "str", _, _, false, rfl, .ty "str", ty, kt, _, rfl, ?_⟩
    show (if (!false) = true then _ else _)
    rw [if_pos (by decide)]
    exact k
  have e0 : SqT K H W wordsV := X.wordsK H
  refine ⟨_, rfl, V.str a, V.ty "str", _, _, true, rfl, .ty "str", .base (.str a), kit_ty (by decide +kernel), _, rfl, ?_⟩
  show (if (!true) = true then _ else _)
  rw [if_neg (by decide)]
  refine ⟨_, rfl, a, rfl, hl, 1, _, rfl, rfl, _, rfl, ?_⟩
  have no : isNameB a = false → (tRet (tC (V.bl false))) { nx := fun _ H' => Q .non H', rt := Q } (L2.start ["thing", "letter"] [V.str a]) H := fun e => by
    have := k H (.inr rfl)
    rw [e] at this
    exact this
  have rest : ∀ b : Bool, isNameB a = (b && (!(inV (.str a) wordsV) && a.cps.toList.all fun c => decide (c ∈ letters.cps.toList))) → (if (!b) = true then (tRet (tC (V.bl false))) { nx := fun _ H' => Q .non H', rt := Q } (L2.start ["thing", "letter"] [V.str a]) H else
      (tRet (tAndV (tOp (rIn K true) (tVar 0) (tC (V.ref W))) (tGx T false (iStr (tVar 0)) (gName 1) tYes
        (tOp (fun x y H Q => ∃ c z, x = V.str ⟨#[c]⟩ ∧ y = V.str z ∧ Q (V.bl (decide (c ∈ z.cps.toList))) H) (tVar 1) (tC (V.str letters))) [1]))) { nx := fun _ H' => Q .non H', rt := Q } (L2.start ["thing", "letter"] [V.str a]) H) := fun b e => by
    cases b with
    | false =>
      rw [if_pos (by decide)]
      exact no e
    | true =>
      rw [if_neg (by decide)]
      rw [Bool.true_and] at e
      refine ⟨_, rfl, W, wordsV, rfl, .inr e0, rfl, by decide, _, rfl, ?_⟩
      show (if (!(inV (.str a) wordsV)) = true then _ else _)
      cases hin : inV (.str a) wordsV with
      | true =>
        rw [hin] at e
        rw [if_neg (by decide)]
        have := k H (.inr rfl)
        rw [e] at this
        exact this
      | false =>
        rw [hin] at e
        rw [if_pos (by decide)]
        have e : isNameB a = a.cps.toList.all fun c => decide (c ∈ letters.cps.toList) := e
        refine ⟨_, rfl, a, rfl, hT, _, fun H2 tab => ⟨_, rfl, Nat.zero_le _, tab, fun j cc hj _ => absurd hj (Nat.not_lt_zero _)⟩,
          gxt_yes a.cps.size (fun i H' => Tabbed T H H' ∧ ∀ j cc, j < i → a.cps[j]? = some cc → cc ∈ letters.cps.toList) (fun i _ h _ => h) (fun _ _ => Nat.le_refl _) (fun H' p => ?_) (fun _ => rfl) fun i x H1 H' hi p y => ?_⟩
        · have ea : isNameB a = true := by
            rw [e, List.all_eq_true]
            intro cc hcc
            obtain ⟨j, hj, ej⟩ := List.getElem_of_mem hcc
            have hj' : j < a.cps.size := by simpa using hj
            refine decide_eq_true (p.2 j cc hj' ?_)
            rw [Array.getElem?_eq_getElem hj', ← ej, Array.getElem_toList]
          have := k H' (.inl p.1)
          rw [ea] at this
          exact this
        · obtain ⟨rfl, cc, hcc, rfl⟩ := y
          refine ⟨_, rfl, cc, letters, rfl, rfl, _, rfl, fun hf => ?_, fun ht => ⟨p.1, fun j c2 hj h2 => ?_⟩⟩
          · have ea : isNameB a = false := by
              rw [e, List.all_eq_false]
              obtain ⟨hb, eb⟩ := Array.getElem?_eq_some_iff.mp hcc
              exact ⟨cc, by rw [← eb]; exact Array.getElem_mem_toList hb, fun z => Bool.noConfusion (hf.symm.trans z)⟩
            have := k H' (.inl p.1)
            rw [ea] at this
            exact this
          · rcases Nat.lt_or_ge j i with hl2 | hg2
            · exact p.2 j c2 hl2 h2
            · have : j = i := by omega
              subst this
              rw [hcc] at h2
              cases h2
              exact of_decide_eq_true (by simpa using ht)
  by_cases h1 : (1 : Int) ≤ (a.length : Int)
  · rw [if_pos (by simpa using h1)]
    refine ⟨_, 8, rfl, rfl, _, rfl, ?_⟩
    refine rest (decide ((a.length : Int) ≤ 8)) ?_
    have e1 : decide (1 ≤ a.length) = true := decide_eq_true (by omega)
    have e2 : decide (a.length ≤ 8) = decide ((a.length : Int) ≤ 8) := by
      by_cases h8 : a.length ≤ 8
      · rw [decide_eq_true h8, decide_eq_true (by omega)]
      · rw [decide_eq_false h8, decide_eq_false (by omega)]
    unfold isNameB
    rw [e1, e2, Bool.true_and, Bool.and_assoc]
  · rw [if_neg (by simpa using h1)]
    refine ⟨_, rfl, ?_⟩
    refine rest false ?_
    unfold isNameB
    rw [decide_eq_false (by omega : ¬ 1 ≤ a.length)]
    rfl
end
end GN

/-! DD3: of which type a thing is; a ground's tables; is_whole, takes_and_gives. -/
namespace Q3
open PySem PySem.Spec PyProof.Rows L2 GenW GxR NdefX GX
open KD (top)
def D.isT : D → Bool | .tup _ => true | _ => false
def D.isS : D → Bool | .str _ => true | _ => false
def D.isI : D → Bool | .int _ => true | .bl _ => true | _ => false
def D.isB : D → Bool | .bl _ => true | _ => false
theorem ty_of {K : PySem.W.Frag} {M : List Addr} {H : Hp} {v : V} {d : D} (h : DS M H v d) : ∃ t, TyX K H v t ∧ PySem.W.kitOne K t (.type "tuple") = some d.isT ∧ PySem.W.kitOne K t (.type "str") = some d.isS ∧ PySem.W.kitOne K t (.type "int") = some d.isI ∧ PySem.W.kitOne K t (.type "bool") = some d.isB := by
  cases h with
  | non => exact ⟨_, .base .non, kit_ty (r := false) (by decide +kernel), kit_ty (r := false) (by decide +kernel), kit_ty (r := false) (by decide +kernel), kit_ty (r := false) (by decide +kernel)⟩
  | bl => exact ⟨_, .base (.bl _), kit_ty (r := false) (by decide +kernel), kit_ty (r := false) (by decide +kernel), kit_ty (r := true) (by decide +kernel), kit_ty (r := true) (by decide +kernel)⟩
  | int => exact ⟨_, .base (.int _), kit_ty (r := false) (by decide +kernel), kit_ty (r := false) (by decide +kernel), kit_ty (r := true) (by decide +kernel), kit_ty (r := false) (by decide +kernel)⟩
  | str => exact ⟨_, .base (.str _), kit_ty (r := false) (by decide +kernel), kit_ty (r := true) (by decide +kernel), kit_ty (r := false) (by decide +kernel), kit_ty (r := false) (by decide +kernel)⟩
  | tup n e => exact ⟨_, .base (.tup e), kit_ty (r := true) (by decide +kernel), kit_ty (r := false) (by decide +kernel), kit_ty (r := false) (by decide +kernel), kit_ty (r := false) (by decide +kernel)⟩
  | lst n e => exact ⟨_, .base (.lst e), kit_ty (r := false) (by decide +kernel), kit_ty (r := false) (by decide +kernel), kit_ty (r := false) (by decide +kernel), kit_ty (r := false) (by decide +kernel)⟩
  | dct n e => exact ⟨_, .base (.dK e), kit_ty (r := false) (by decide +kernel), kit_ty (r := false) (by decide +kernel), kit_ty (r := false) (by decide +kernel), kit_ty (r := false) (by decide +kernel)⟩
theorem boot_tupT : bootBuiltins "tuple" = some (.type "tuple") := by decide +kernel
theorem boot_intT : bootBuiltins "int" = some (.type "int") := by decide +kernel
theorem boot_boolT : bootBuiltins "bool" = some (.type "bool") := by decide +kernel
structure TxQ (mg : Str → Option Value) : Prop where
  isi : mg "isinstance" = none
  str : mg "str" = none
  tup : mg "tuple" = none
  int : mg "int" = none
  bool : mg "bool" = none
  len : mg "len" = none
  all : mg "all" = none
  sum : mg "sum" = none
  dict : mg "dict" = none
  enu : mg "enumerate" = none
  lst : mg "list" = none
  zip : mg "zip" = none
/-- a ground stands at g, apart from M -/
def GrAt (M : List Addr) (C : Addr) (H : Hp) (g : Addr) (G : Gr) : Prop := ∃ (dx mk tk gv fa rt : Addr) (ms ts gs fs rs : List (Key × V)), (g ∉ M ∧ H g = some (.ins C dx (GN.gf mk tk gv fa rt))) ∧ (mk ∉ M ∧ H mk = some (.dK ms)) ∧ (tk ∉ M ∧ H tk = some (.dK ts)) ∧ (gv ∉ M ∧ H gv = some (.dK gs)) ∧ (fa ∉ M ∧ H fa = some (.dK fs)) ∧ (rt ∉ M ∧ H rt = some (.dK rs)) ∧
  (∀ a, (valV ms (.inr a)).isSome = decide (a ∈ G.ks)) ∧ ∀ f, match G.tg f with
    | some (t, k) => ∃ b, b ∉ M ∧ valV ts (.inr f) = some (.ref b) ∧ H b = some (.tup (t.map V.str)) ∧ valV gs (.inr f) = some (.str k)
    | none => valV ts (.inr f) = none
theorem GrAt.mono {M : List Addr} {C : Addr} {H H' : Hp} {g : Addr} {G : Gr} (h : GrAt M C H g G) (k : Kp M H H') : GrAt M C H' g G := by
  obtain ⟨dx, mk, tk, gv, fa, rt, ms, ts, gs, fs, rs, ⟨n0, h0⟩, ⟨n1, h1⟩, ⟨n2, h2⟩, ⟨n3, h3⟩, ⟨n4, h4⟩, ⟨n5, h5⟩, hk, hf⟩ := h
  refine ⟨dx, mk, tk, gv, fa, rt, ms, ts, gs, fs, rs, ⟨n0, k _ _ n0 h0⟩, ⟨n1, k _ _ n1 h1⟩, ⟨n2, k _ _ n2 h2⟩, ⟨n3, k _ _ n3 h3⟩, ⟨n4, k _ _ n4 h4⟩, ⟨n5, k _ _ n5 h5⟩, hk, fun f => ?_⟩
  have q := hf f
  cases e : G.tg f with
  | none =>
    rw [e] at q
    exact q
  | some r =>
    rw [e] at q
    obtain ⟨t, k'⟩ := r
    obtain ⟨b, nb, h6, h7, h8⟩ := q
    exact ⟨b, nb, h6, k _ _ nb h7, h8⟩
theorem GrAt.at {M : List Addr} {C : Addr} {H : Hp} {g : Addr} {G : Gr} (h : GrAt M C H g G) : ∃ D : GN.GD, GN.GroundAt C H g D ∧ ∀ a, GN.has D.ms (some a) = decide (a ∈ G.ks) := by
  obtain ⟨dx, mk, tk, gv, fa, rt, ms, ts, gs, fs, rs, ⟨n0, h0⟩, ⟨n1, h1⟩, ⟨n2, h2⟩, ⟨n3, h3⟩, ⟨n4, h4⟩, ⟨n5, h5⟩, hk, hf⟩ := h
  exact ⟨⟨ms, ts, gs, fs, rs⟩, ⟨dx, mk, tk, gv, fa, rt, h0, h1, h2, h3, h4, h5⟩, hk⟩
theorem Kp.refl {M : List Addr} (H : Hp) : Kp M H H := fun _ _ _ h => h
theorem Kp.trans {M : List Addr} {H H1 H2 : Hp} (a : Kp M H H1) (b : Kp M H1 H2) : Kp M H H2 := fun x o n h => b x o n (a x o n h)
theorem Kp.sub {M N : List Addr} {H H1 : Hp} (a : Kp M H H1) (s : ∀ x ∈ M, x ∈ N) : Kp N H H1 := fun x o n h => a x o (fun z => n (s x z)) h
theorem Kp.new {M : List Addr} {H : Hp} {p : Addr} {o : HO} (h : H p = none) : Kp M H (upd H p o) := fun x u _ e => by rw [upd_ne (ne_of_none e h)]; exact e
theorem Kp.upd {M : List Addr} {H : Hp} {p : Addr} {o : HO} (h : p ∈ M) : Kp M H (L2.upd H p o) := fun x u n e => by rw [upd_ne (fun z => n (by rw [z]; exact h))]; exact e
theorem Kp.same {M : List Addr} {H H1 : Hp} (a : Same H H1) : Kp M H H1 := fun x o _ h => a x o h
theorem Kp.old {M : List Addr} {x : Addr} {H H1 : Hp} (a : Kp (x :: M) H H1) (h : H x = none) : Kp M H H1 := fun y o n e => a y o (fun z => (List.mem_cons.mp z).elim (fun w => ne_of_none e h w) n) e
theorem Kp.tabbed {T : Addr} {H H1 : Hp} (t : Tabbed T H H1) : Kp [T] H H1 := fun x o n e => by rw [t.2 x (fun z => n (by simp [z]))]; exact e
theorem tab_new {T p : Addr} {H : Hp} {o : HO} (h : TabG H T) (e : H p = none) : TabG (L2.upd H p o) T := by
  obtain ⟨ps, hp, q⟩ := h
  exact ⟨ps, by rw [upd_ne (ne_of_none hp e)]; exact hp, q⟩
theorem tab_kp {T : Addr} {M : List Addr} {H H' : Hp} (h : TabG H T) (k : Kp M H H') (n : T ∉ M) : TabG H' T := by
  obtain ⟨ps, hp, q⟩ := h
  exact ⟨ps, k _ _ n hp, q⟩
def spWhole (K : PySem.W.Frag) : Sp := fun vs H Q _ => ∃ (M : List Addr) (v : V) (d : D), vs = [v] ∧ DS M H v d ∧ Q (.bl (d.isI && !d.isB)) H
/-- what takes_and_gives tells -/
def spTG (C : Addr) : Sp := fun vs H Q _ => ∃ (M : List Addr) (g : Addr) (v : V) (d : D) (G : Gr), vs = [.ref g, v] ∧ GrAt M C H g G ∧ DS M H v d ∧
  (∀ f t k b p, d = .str f → G.tg f = some (t, k) → b ∉ M → H b = some (.tup (t.map V.str)) → H p = none → Q (.ref p) (upd H p (.tup [.ref b, .str k]))) ∧ ((∀ f r, d = .str f → G.tg f = some r → False) → Q .non H)
theorem scWh : FnScope ["thing"] ["thing"] (defScope (top 6)) := ⟨rfl, rfl, rfl, by decide +kernel, rfl, by decide +kernel, by decide +kernel⟩
abbrev sTG : Stmt := GN.met 10
theorem scTG : FnScope ["self", "thing"] ["self", "thing"] (defScope sTG) := ⟨rfl, rfl, rfl, by decide +kernel, rfl, by decide +kernel, by decide +kernel⟩
section
variable {P : Program} {w : World} {K : PySem.W.Frag} {mg : Str → Option Value} {base : Heap} {f C : Addr} {fd : FuncData}
theorem ok_whole (F : Fun K "is_whole" "is_whole" (top 6) f fd) (X : TxQ mg) (k : Nat) : FnOk P w K mg base CX0 (1 + k) f fd ["thing"] (spWhole K) := by
  rw [show 1 + k = (0 + k) + 1 by omega]
  refine F.ok scWh (fun vs H Q E h => ?_) (fun cdv A outer s H vs Q E hr h => ?_)
  · obtain ⟨M, v, d, rfl, _⟩ := h
    rfl
  obtain ⟨M, v, d, rfl, hd, k⟩ := h
  refine ⟨_, pss_one (ps_ret (pe_and (pe_callB call_isi (by rfl) X.isi GN.boot_isi (pa_cons (pv 0) (pa_cons (pe_bltn (v := .ty "int") rfl X.int boot_intT rfl) pa_nil)))
    (pe_one (pe_not (pe_callB call_isi (by rfl) X.isi GN.boot_isi (pa_cons (pv 0) (pa_cons (pe_bltn (v := .ty "bool") rfl X.bool boot_boolT rfl) pa_nil))))))), ?_⟩
  obtain ⟨t, ty, k1, k2, k3, k4⟩ := ty_of (K := K) hd
  refine ⟨_, rfl, v, V.ty "int", _, _, d.isI, rfl, .ty "int", ty, k3, _, rfl, ?_⟩
  refine ite2 (fun e => ?_) (fun e => ?_)
  · refine ⟨_, rfl, v, V.ty "bool", _, _, d.isB, rfl, .ty "bool", ty, k4, _, rfl, ?_⟩
    rw [e, Bool.true_and] at k
    exact k
  · rw [Bool.not_eq_true] at e
    rw [e, Bool.false_and] at k
    exact k
theorem ok_tg (F : Fun K "takes_and_gives" "Ground.takes_and_gives" sTG f fd) (X : TxQ mg) (T : GN.TxtG K mg C) (k : Nat) : FnOk P w K mg base CX0 (1 + k) f fd ["self", "thing"] (spTG C) := by
  rw [show 1 + k = (0 + k) + 1 by omega]
  refine F.ok scTG (fun vs H Q E h => ?_) (fun cdv A outer s H vs Q E hr h => ?_)
  · obtain ⟨M, g, v, d, G, rfl, _⟩ := h
    rfl
  obtain ⟨M, g, v, d, G, rfl, hG, hd, k1, k2⟩ := h
  refine ⟨_, pss_cons (ps_if (PW.pt (pw_or (pt_not (pt_val (pe_callB call_isi (by rfl) X.isi GN.boot_isi (pa_cons (pv 1) (pa_cons (pe_bltn (v := .ty "str") rfl X.str GN.boot_strT rfl) pa_nil)))))
      (pw_or1 (pt_cmp (pc_dnotin (hu_of hr) (pv 1) (pe_fld (pv 0) rfl)))))) (pss_one (ps_ret pe_non)) pss_nil)
    (pss_one (ps_ret (pe_tup (pa_cons (pe_dget (hu_of hr) (pe_fld (pv 0) rfl) (pv 1) (fun _ _ => rfl)) (pa_cons (pe_dget (hu_of hr) (pe_fld (pv 0) rfl) (pv 1) (fun _ _ => rfl)) pa_nil))))), ?_⟩
  obtain ⟨t, ty, _, ks, _⟩ := ty_of (K := K) hd
  obtain ⟨dx, mk, tk, gv, fa, rt, ms, ts, gs, fs, rs, ⟨n0, h0⟩, ⟨n1, h1⟩, ⟨n2, h2⟩, ⟨n3, h3⟩, ⟨n4, h4⟩, ⟨n5, h5⟩, hk, hf⟩ := hG
  refine ⟨_, rfl, v, V.ty "str", _, _, d.isS, rfl, .ty "str", ty, ks, _, rfl, ?_⟩
  cases hd with
  | @str a ha =>
    show (if (!true) = true then _ else _)
    rw [if_neg (by decide)]
    have q := hf a
    refine ⟨_, rfl, _, rfl, g, C, dx, _, _, rfl, h0, T.cl, T.n2, rfl, tk, _, rfl, DGet.k (k := Sum.inr a) h2, _, rfl, ?_⟩
    cases e : G.tg a with
    | none =>
      rw [e] at q
      rw [q]
      show (if (!false) = true then _ else _)
      rw [if_pos (by decide)]
      refine k2 fun f r z z2 => ?_
      injection z with z
      rw [← z, e] at z2
      exact nomatch z2
    | some r =>
      obtain ⟨t1, k'⟩ := r
      rw [e] at q
      obtain ⟨b, nb, q1, q2, q3⟩ := q
      rw [q1]
      show (if (!true) = true then _ else _)
      rw [if_neg (by decide)]
      refine ⟨_, rfl, g, C, dx, _, _, rfl, h0, T.cl, T.n2, rfl, _, rfl, tk, .ref b, rfl, ?_, ?_⟩
      · have z := DGet.k (k := Sum.inr a) h2
        rw [q1] at z
        exact z
      refine ⟨_, rfl, g, C, dx, _, _, rfl, h0, T.cl, T.n3, rfl, _, rfl, gv, .str k', rfl, ?_, by show 2 ≤ sizeLine; decide, fun p hp => k1 a t1 k' b p rfl e nb q2 hp⟩
      have z := DGet.k (k := Sum.inr a) h3
      rw [q3] at z
      exact z
  | _ =>
    show (if (!false) = true then _ else _)
    rw [if_pos (by decide)]
    exact k2 fun f r z _ => nomatch z
end
end Q3

/-! DD4: what kind_within, _kind_made need. -/
namespace Q3
open PySem PySem.Spec PyProof.Rows L2 GenW GxR NdefX GX
open KD (top)
def oV : Option Str → V
  | some k => .str k
  | none => .non
def nameD : D → Bool
  | .str a => GN.isNameB a
  | _ => false
theorem kw_2 (G : Gr) (h : Nat) (wd : Str) (a : D) (ar : List Str) : kw G (h + 1) (.tup [.str wd, a]) ar = if wd = "bound" then kb a ar else none := rfl
theorem kw_3 (G : Gr) (h : Nat) (wd : Str) (a b : D) (ar : List Str) : kw G (h + 1) (.tup [.str wd, a, b]) ar = if wd = "name" then kn G a b else if wd = "made" then km G h a b ar else none := rfl
theorem kw_n (G : Gr) (h : Nat) {d : D} (ar : List Str) (n : ∀ wd r, d = .tup (.str wd :: r) → r.length ≠ 1 ∧ r.length ≠ 2) : kw G (h + 1) d ar = none := by
  match d, n with
  | .non, _ => rfl
  | .bl _, _ => rfl
  | .int _, _ => rfl
  | .str _, _ => rfl
  | .lst _, _ => rfl
  | .dct, _ => rfl
  | .tup [], _ => rfl
  | .tup [.non], _ => rfl
  | .tup (.non :: _ :: _), _ => rfl
  | .tup (.bl _ :: _), _ => rfl
  | .tup (.int _ :: _), _ => rfl
  | .tup (.tup _ :: _), _ => rfl
  | .tup (.lst _ :: _), _ => rfl
  | .tup (.dct :: _), _ => rfl
  | .tup (.str wd :: r), n =>
    have := n wd r rfl
    match r, this with
    | [], _ => rfl
    | [_], z => exact absurd rfl z.1
    | [_, _], z => exact absurd rfl z.2
    | _ :: _ :: _ :: _, _ => rfl
theorem dT {x y : Str} (h : x = y) : decide (V.str x = V.str y) = true := decide_eq_true (congrArg V.str h)
theorem dF {x y : Str} (h : x ≠ y) : decide (V.str x = V.str y) = false := decide_eq_false fun z => by
  injection z with z
  exact h z
theorem isname_use {K : PySem.W.Frag} {W T : Addr} {M : List Addr} {H : Hp} {v : V} {d : D} {Q : VK} {E : XK} (hd : DS M H v d) (hT : TabG H T) (k : ∀ H', Kp [T] H H' → TabG H' T → Q (.bl (nameD d)) H') : GN.spIsNameD K W T [v] H Q E := by
  obtain ⟨t, ty, _, ks, _⟩ := ty_of (K := K) hd
  cases hd with
  | @str a ha =>
    refine .inl ⟨a, rfl, Nat.le_trans ha (by decide), hT, fun H' tb => ?_⟩
    rcases tb with tb | rfl
    · exact k H' (Kp.tabbed tb) tb.1
    · exact k H' (Kp.refl _) hT
  | _ => exact .inr ⟨_, t, rfl, ty, ks, k H (Kp.refl _) hT⟩
theorem iskind_use {K : PySem.W.Frag} {C : Addr} {M : List Addr} {H : Hp} {g : Addr} {v : V} {d : D} {G : Gr} {Q : VK} {E : XK} (hG : GrAt M C H g G) (hd : DS M H v d) (k : Q (.bl (kindD G d)) H) : GN.spHas C K GN.GD.isKind [.ref g, v] H Q E := by
  obtain ⟨t, ty, _, ks, _⟩ := ty_of (K := K) hd
  obtain ⟨D, h1, h2⟩ := hG.at
  cases hd with
  | @str a ha =>
    refine ⟨g, .str a, some a, D, rfl, h1, rfl, ?_⟩
    show Q (.bl (GN.has D.ms (some a))) H
    rw [h2]
    exact k
  | _ => exact ⟨g, _, none, D, rfl, h1, ⟨t, ty, ks⟩, k⟩
/-- the ground's object -/
theorem GrAt.obj {M : List Addr} {C : Addr} {H : Hp} {g : Addr} {G : Gr} (h : GrAt M C H g G) : ∃ dx mk tk gv fa rt, H g = some (.ins C dx (GN.gf mk tk gv fa rt)) := by
  obtain ⟨dx, mk, tk, gv, fa, rt, ms, ts, gs, fs, rs, ⟨n0, h0⟩, _⟩ := h
  exact ⟨dx, mk, tk, gv, fa, rt, h0⟩
/-- the methods that sayings ask -/
structure MsQ (P : Program) (w : World) (K : PySem.W.Frag) (mg : Str → Option Value) (base : Heap) (C : Addr) where
  fk : Addr
  fdk : FuncData
  ft : Addr
  fdt : FuncData
  mK : Meth K C "is_kind" fk
  kind : FnOk P w K mg base CX0 1 fk fdk ["self", "thing"] (GN.spHas C K GN.GD.isKind)
  bk : Binds K fdk ["self", "thing"] []
  mT : Meth K C "takes_and_gives" ft
  tg : FnOk P w K mg base CX0 1 ft fdt ["self", "thing"] (spTG C)
  bt : Binds K fdt ["self", "thing"] []
def spKw (C T : Addr) (h : Nat) : Sp := fun vs H Q _ => ∃ (M : List Addr) (g a : Addr) (v : V) (d : D) (as : List Str) (G : Gr), vs = [.ref g, v, .ref a] ∧ T ∈ M ∧ GrAt M C H g G ∧ DS M H v d ∧ dh h d ∧ (a ∉ M ∧ H a = some (.tup (as.map V.str))) ∧ TabG H T ∧ ∀ H', Kp [T] H H' → TabG H' T → Q (oV (kw G h d as)) H'
def spKm (C T : Addr) (h : Nat) : Sp := fun vs H Q _ => ∃ (M : List Addr) (g a : Addr) (v u : V) (d e : D) (as : List Str) (G : Gr), vs = [.ref g, v, u, .ref a] ∧ T ∈ M ∧ GrAt M C H g G ∧ DS M H v d ∧ DS M H u e ∧ (∀ ps, e = .tup ps → ∀ p ∈ ps, dh h p) ∧ (a ∉ M ∧ H a = some (.tup (as.map V.str))) ∧ TabG H T ∧ ∀ H', Kp [T] H H' → TabG H' T → Q (oV (km G h d e as)) H'
abbrev sKw : Stmt := top 9
abbrev nKw : List Str := ["ground", "thing", "around"]
theorem scKw : FnScope nKw nKw (defScope sKw) := ⟨rfl, rfl, rfl, by decide +kernel, rfl, by decide +kernel, by decide +kernel⟩
abbrev sKm : Stmt := top 10
abbrev nKm : List Str := ["ground", "f", "parts", "around", "told", "takes", "gives", "part", "kind"]
abbrev pKm : List Str := ["ground", "f", "parts", "around"]
theorem scKm : FnScope nKm pKm (defScope sKm) := ⟨rfl, rfl, rfl, by decide +kernel, rfl, by decide +kernel, by decide +kernel⟩
end Q3

/-! DD5: kind_within, _kind_made. -/
namespace Q3
open PySem PySem.Spec PyProof.Rows L2 GenW GxR NdefX GX
open KD (top)
/-- is_name, as a def that is called -/
structure NmQ (P : Program) (w : World) (K : PySem.W.Frag) (mg : Str → Option Value) (base : Heap) (T W : Addr) where
  f : Addr
  fd : FuncData
  ok : FnOk P w K mg base CX0 3 f fd ["thing"] (GN.spIsNameD K W T)
  m : mg "is_name" = some (.ref f)
  kp : PySem.W.keepIn K (.ref f) = true
  b : Binds K fd ["thing"] []
theorem inV23 (n : Nat) : inV (.int n) [.int 2, .int 3] = decide (n = 2 ∨ n = 3) := by
  unfold inV
  simp only [List.any_cons, List.any_nil, Bool.or_false]
  by_cases h2 : n = 2
  · subst h2
    rfl
  · by_cases h3 : n = 3
    · subst h3
      rfl
    · rw [decide_eq_false (by omega)]
      have e1 : eqV (.int 2) (.int (n : Int)) = false := decide_eq_false (by omega)
      have e2 : eqV (.int 3) (.int (n : Int)) = false := decide_eq_false (by omega)
      rw [e1, e2]
      rfl
theorem kn_eq (G : Gr) (x k : D) : kn G x k = if nameD x = true then (if kindD G k = true then some (strD k) else none) else none := by
  cases x with
  | str a =>
    cases k with
    | str b =>
      show (if GN.isNameB a = true ∧ b ∈ G.ks then some b else none) = if GN.isNameB a = true then (if decide (b ∈ G.ks) = true then some b else none) else none
      by_cases h1 : GN.isNameB a = true
      · by_cases h2 : b ∈ G.ks
        · rw [if_pos ⟨h1, h2⟩, if_pos h1, if_pos (decide_eq_true h2)]
        · rw [if_neg (fun z => h2 z.2), if_pos h1, if_neg (by rw [decide_eq_false h2]; decide)]
      · rw [if_neg (fun z => h1 z.1), if_neg h1]
    | _ => 
      show none = if GN.isNameB a = true then (if false = true then _ else none) else none
      rw [if_neg (show ¬ false = true by decide)]
      simp only [ite_self]
  | _ => cases k <;> rfl
theorem goal1 {sp : Sp} {σ : L2.St} {H : Hp} {v : V} {Q : VK} {E : XK} (h : sp [v] H Q E) : (fun x H1 => tNil σ H1 fun xs H2 => (fun vs H1 => sp (vs ++ []) H1 Q E) (x :: xs) H2) v H := h
theorem goal2 {sp : Sp} {σ : L2.St} {H : Hp} {v u : V} {Q : VK} {E : XK} (h : sp [u, v] H Q E) : (fun x H1 => tNil σ H1 fun xs H2 => (fun vs H1 => sp (u :: (vs ++ [])) H1 Q E) (x :: xs) H2) v H := h
theorem dh_in : ∀ {h : Nat} {ps : List D}, dh h (.tup ps) → ∀ p ∈ ps, dh h p
  | 0, _, z => z.elim
  | h + 1, ps, z => fun p hp => dh_le (z.2 p hp) (Nat.le_succ h)
theorem dh_len : ∀ {h : Nat} {ps : List D}, dh h (.tup ps) → ps.length ≤ 1000
  | 0, _, z => z.elim
  | h + 1, ps, z => z.1
section
variable {P : Program} {w : World} {K : PySem.W.Frag} {mg : Str → Option Value} {base : Heap} {f fm fw fh C Tb W : Addr} {fd fdm fdw fdh : FuncData}
/-- _kind_made, where kind_within is known of less -/
theorem ok_km (F : Fun K "_kind_made" "_kind_made" sKm f fd) (Fw : Fun K "kind_within" "kind_within" sKw fw fdw) (bw : Binds K fdw nKw []) (mw : mg "kind_within" = some (.ref fw)) (X : TxQ mg) (T : GN.TxtG K mg C) (Ms : MsQ P w K mg base C) {j h : Nat} (hj : 2 ≤ j) (KW : FnOk P w K mg base CX0 j fw fdw nKw (spKw C Tb h)) :
    FnOk P w K mg base CX0 (j + 1) f fd pKm (spKm C Tb h) := by
  refine F.ok scKm (fun vs H Q E h => ?_) (fun cdv A outer s H vs Q E hr hq => ?_)
  · obtain ⟨M, g, a, v, u, d, e, as, G, rfl, _⟩ := h
    rfl
  obtain ⟨M, g, a, v, u, d, e, as, G, rfl, hTM, hG, hd, he, hh, ⟨na, ha⟩, hT, kq⟩ := hq
  refine ⟨_, /-TM-/(pss_cons (ps_set (i := 4) scKm.nd rfl (Or.inl rfl) (pe_meth (pv 0) T.cl Ms.mT Ms.tg (hr.mono (by omega)) Ms.bt .nil pass0 (pa_cons (pv 1) pa_nil)))
      (pss_cons (ps_if (pt_cmpR op_isN (pv 4) pe_non (nomark _)) (pss_one
        (ps_ret pe_non)) pss_nil)
      (pss_cons (ps_asg (pv 4) (pg_tup rfl (pgs_cons (pg_name (i := 5) scKm.nd rfl (Or.inl rfl)) (pgs_cons (pg_name (i := 6) scKm.nd rfl (Or.inl rfl)) pgs_nil))))
      (pss_cons (ps_if (PW.pt (pw_or (pt_not (pt_val (pe_callB call_isi (by rfl) X.isi GN.boot_isi (pa_cons (pv 2) (pa_cons (pe_bltn (v := .ty "tuple") rfl X.tup boot_tupT rfl) pa_nil))))) (pw_or1 (pt_cmpR op_ne (pe_callB call_len_seq (by rfl) X.len PySem.boot_len (pa_cons (pv 2) pa_nil)) (pe_callB call_len_seq (by rfl) X.len PySem.boot_len (pa_cons (pv 5) pa_nil)) (nomark _))))) (pss_one
        (ps_ret pe_non)) pss_nil)
      (pss_cons (ps_for PassesOwn.never rfl (RZ.pi_zipA rfl X.zip (pa_cons (pv 2) (pa_cons (pv 5) pa_nil))) (pg_tup rfl (pgs_cons (pg_name (i := 7) scKm.nd rfl (Or.inl rfl)) (pgs_cons (pg_name (i := 8) scKm.nd rfl (Or.inl rfl)) pgs_nil))) (pss_one
        (ps_if (pt_cmpR op_ne (pe_call (KW) (hr.mono (by omega)) rfl mw Fw.kp bw .nil pass0 (pa_cons (pv 0) (pa_cons (pv 7) (pa_cons (pv 3) pa_nil)))) (pv 8) (nomark _)) (pss_one
        (ps_ret pe_non)) pss_nil)))
      (pss_one
        (ps_ret (pv 6))))))))/-TME-/, ?_⟩
  obtain ⟨dx, mk, tk, gv', fa, rt, h0⟩ := hG.obj
  refine ⟨_, rfl, g, dx, _, rfl, h0, GN.gf_no (by decide +kernel), _, rfl, M, g, v, d, G, rfl, hG, hd, fun fn ts gv b p ed et nb hb hp => ?_, fun hno => ?_⟩
  · subst ed
    have ev : v = V.str fn := by
      cases hd
      rfl
    subst ev
    have hTp := tab_new (o := .tup [.ref b, .str gv]) hT hp
    have kp1 : Kp [Tb] H (upd H p (.tup [.ref b, .str gv])) := Kp.new hp
    have kM1 : Kp M H (upd H p (.tup [.ref b, .str gv])) := Kp.new hp
    have hp1 : upd H p (.tup [.ref b, .str gv]) p = some (.tup [.ref b, .str gv]) := upd_same
    generalize upd H p (.tup [.ref b, .str gv]) = H1 at hTp kp1 kM1 hp1 ⊢
    have hb1 := kM1 _ _ nb hb
    have he1 := he.mono kM1
    refine ⟨_, rfl, rfl, false, congrArg V.bl (decide_eq_false (fun z => nomatch z)), iteF ?_⟩
    refine ⟨_, rfl, _, _, rfl, SqT.of hp1, rfl, _, _, rfl, _, _, rfl, rfl, ?_⟩
    obtain ⟨t, ty, kt, _⟩ := ty_of (K := K) he1
    refine ⟨_, rfl, u, V.ty "tuple", _, _, e.isT, rfl, .ty "tuple", ty, kt, _, rfl, ?_⟩
    cases he1 with
    | @tup ua us ps nu hu hl =>
      show (if (!true) = true then _ else _)
      rw [if_neg (by decide)]
      have lus := hl.length
      have ek : km G h (.str fn) (.tup ps) as = if ps.map (fun p => kw G h p as) = ts.map some then some gv else none := by
        show (match G.tg fn with | some (ts, gv) => _ | none => none) = _
        rw [et]
      have lts : (ts.map V.str).length = ts.length := List.length_map _
      by_cases hlen : us.length = ts.length
      case neg =>
        refine ⟨_, rfl, _, _, rfl, .inr (SqT.of hu), _, rfl, _, _, rfl, .inr (SqT.of hb1), rfl, true, ?_, iteT ?_⟩
        · rw [decide_eq_false (fun z => hlen (by injection z with z; rw [lts] at z; omega))]
          rfl
        have z := kq H1 kp1 hTp
        rw [ek, if_neg (fun z => hlen (by have := congrArg List.length z; rw [List.length_map, List.length_map] at this; omega))] at z
        exact z
      refine ⟨_, rfl, _, _, rfl, .inr (SqT.of hu), _, rfl, _, _, rfl, .inr (SqT.of hb1), rfl, false, ?_, iteF ?_⟩
      · rw [lts, ← hlen, decide_eq_true rfl]
        rfl
      refine ⟨_, rfl, _, rfl, ua, b, us, _, rfl, .inr ⟨SqT.of hu, SqT.of hb1, ?_⟩⟩
      refine RZ.for_zipT (hlen.trans lts.symm) (fun i σ' H' => ∃ (o7 o8 : Option V), σ' = [some (V.ref g), some (V.str fn), some (V.ref ua), some (V.ref a), some (V.ref p), some (V.ref b), some (V.str gv), o7, o8] ∧ Kp [Tb] H1 H' ∧ TabG H' Tb ∧ H' ua = some (.tup us) ∧ H' b = some (.tup (ts.map V.str)) ∧ ∀ k, k < i → (ps.map (fun p => kw G h p as))[k]? = (ts.map some)[k]?)
        ⟨_, _, rfl, Kp.refl _, hTp, hu, hb1, fun k hk => absurd hk (Nat.not_lt_zero _)⟩ (fun i σ' H' q => ?_) (fun i x y T0 σ' H2 hx hy q hT0 => ?_) (fun σ' H2 q => ?_)
      · obtain ⟨_, _, _, _, _, q1, q2, _⟩ := q
        exact ⟨SqT.of q1, SqT.of q2⟩
      · obtain ⟨o7, o8, rfl, kp2, hT2, hu2, hb2, q⟩ := q
        obtain ⟨dx', hdx, hD⟩ := hl.get hx
        obtain ⟨kd, hkd⟩ : ∃ kd, ts[i]? = some kd ∧ y = V.str kd := by
          rw [List.getElem?_map] at hy
          cases e : ts[i]? with
          | none => rw [e] at hy; exact nomatch hy
          | some kd =>
            rw [e] at hy
            exact ⟨kd, rfl, (Option.some.inj hy).symm⟩
        obtain ⟨hkd, rfl⟩ := hkd
        have kpT : Kp [Tb] H2 (upd H2 T0 (.tup [x, V.str kd])) := Kp.new hT0
        have tT := tab_new (o := .tup [x, V.str kd]) hT2 hT0
        have sT : Same H2 (upd H2 T0 (.tup [x, V.str kd])) := KD.Same.upd hT0
        have hT0' : upd H2 T0 (.tup [x, V.str kd]) T0 = some (.tup [x, V.str kd]) := upd_same
        generalize upd H2 T0 (.tup [x, V.str kd]) = H3 at kpT tT sT hT0' ⊢
        have k13 : Kp [Tb] H1 H3 := kp2.trans kpT
        have k13M : Kp M H1 H3 := k13.sub (by simpa using hTM)
        have k03M : Kp M H H3 := kM1.trans k13M
        refine ⟨_, _, rfl, SqT.of hT0', rfl, _, _, rfl, _, _, rfl, rfl, ?_⟩
        refine ⟨_, rfl, _, rfl, _, rfl, M, g, a, x, dx', as, G, rfl, hTM, hG.mono k03M, hD.mono k13M, hh ps rfl dx' (List.mem_of_getElem? hdx), ⟨na, k03M _ _ na ha⟩, tT, fun H4 kp4 hT4 => ?_⟩
        have k14 := k13.trans kp4
        have k14M : Kp M H1 H4 := k14.sub (by simpa using hTM)
        have eP : (ps.map (fun p => kw G h p as))[i]? = some (kw G h dx' as) := by rw [List.getElem?_map, hdx]; rfl
        have eT : (ts.map some)[i]? = some (some kd) := by rw [List.getElem?_map, hkd]; rfl
        generalize kw G h dx' as = r at eP ⊢
        have sc : scal (oV r) (.str kd) = true := by cases r <;> rfl
        by_cases er : r = some kd
        · refine ⟨_, rfl, sc, false, ?_, iteF ?_⟩
          · rw [er, show oV (some kd) = V.str kd from rfl, decide_eq_true rfl]
            rfl
          refine ⟨_, _, rfl, k14, hT4, k14M _ _ nu hu, k14M _ _ nb hb1, fun k hk => ?_⟩
          rcases Nat.lt_or_ge k i with h1 | h1
          · exact q k h1
          · obtain rfl : k = i := by omega
            rw [eP, eT, er]
        · refine ⟨_, rfl, sc, true, ?_, iteT ?_⟩
          · rw [decide_eq_false]
            · rfl
            · intro z
              cases r with
              | none => exact nomatch z
              | some r' =>
                injection (show V.str r' = V.str kd from z) with z
                exact er (by rw [z])
          have z := kq H4 (kp1.trans k14) hT4
          rw [ek, if_neg ?_] at z
          · exact z
          · intro z2
            rw [z2, eT] at eP
            exact er (Option.some.inj eP).symm
      · obtain ⟨o7, o8, rfl, kp2, hT2, _, _, q⟩ := q
        have z := kq H2 (kp1.trans kp2) hT2
        rw [ek, if_pos ?_] at z
        · exact ⟨_, rfl, z⟩
        · refine List.ext_getElem? fun k => ?_
          rcases Nat.lt_or_ge k us.length with hk | hk
          · exact q k hk
          · rw [List.getElem?_eq_none (by rw [List.length_map]; omega), List.getElem?_eq_none (by rw [List.length_map]; omega)]
    | _ =>
      show (if (!false) = true then _ else _)
      rw [if_pos (by decide)]
      have z := kq H1 kp1 hTp
      rw [show km G h (.str fn) _ as = none from rfl] at z
      exact z
  · refine ⟨_, rfl, rfl, true, congrArg V.bl (decide_eq_true rfl), iteT ?_⟩
    have e0 : km G h d e as = none := by
      unfold km
      cases d with
      | str x =>
        cases e with
        | tup ps =>
          show (match G.tg x with | some (ts, gv) => _ | none => none) = none
          cases ex : G.tg x with
          | none => rfl
          | some r => exact (hno x r rfl ex).elim
        | _ => rfl
      | _ => rfl
    have z := kq H (Kp.refl _) hT
    rw [e0] at z
    exact z
theorem ok_kw (F : Fun K "kind_within" "kind_within" sKw f fd) (b : Binds K fd nKw []) (m : mg "kind_within" = some (.ref f)) (Fm : Fun K "_kind_made" "_kind_made" sKm fm fdm) (bm : Binds K fdm pKm []) (mm : mg "_kind_made" = some (.ref fm)) (Nm : NmQ P w K mg base Tb W) (Fh : Fun K "is_whole" "is_whole" (top 6) fh fdh) (bh : Binds K fdh ["thing"] []) (mh : mg "is_whole" = some (.ref fh)) (X : TxQ mg) (T : GN.TxtG K mg C) (Ms : MsQ P w K mg base C) :
    ∀ h, FnOk P w K mg base CX0 (4 + 2 * h) f fd nKw (spKw C Tb h)
  | 0 => by
    refine F.ok scKw (fun vs H Q E h => ?_) (fun cdv A0 outer s H vs Q E hr h => ?_)
    · obtain ⟨M, g, a, v, d, as, G, rfl, _⟩ := h
      rfl
    · obtain ⟨M, g, a, v, d, as, G, rfl, _, _, _, z, _⟩ := h
      exact z.elim
  | h + 1 => by
    have IH := ok_kw F b m Fm bm mm Nm Fh bh mh X T Ms h
    have KM := ok_km Fm F b m X T Ms (by omega) IH
    rw [show 4 + 2 * (h + 1) = (4 + 2 * h + 1) + 1 by omega]
    refine F.ok scKw (fun vs H Q E h => ?_) (fun cdv A0 outer s H vs Q E hr hq => ?_)
    · obtain ⟨M, g, a, v, d, as, G, rfl, _⟩ := h
      rfl
    obtain ⟨M, g, a, v, d, as, G, rfl, hTM, hG, hd, hh, ⟨na, ha⟩, hT, kq⟩ := hq
    refine ⟨_, /-TW-/(pss_cons (ps_if (PW.pt (pw_or (pt_not (pt_val (pe_callB call_isi (by rfl) X.isi GN.boot_isi (pa_cons (pv 1) (pa_cons (pe_bltn (v := .ty "tuple") rfl X.tup boot_tupT rfl) pa_nil))))) (pw_or (pt_cmpR op_notIn_seq (pe_callB call_len_seq (by rfl) X.len PySem.boot_len (pa_cons (pv 1) pa_nil)) (pe_tup (pa_cons pe_int (pa_cons pe_int pa_nil))) (by rfl)) (pw_or1 (pt_not (pt_val (pe_callB call_isi (by rfl) X.isi GN.boot_isi (pa_cons (pe_ix ix_tup (pv 1) pe_int (fun _ _ => rfl)) (pa_cons (pe_bltn (v := .ty "str") rfl X.str GN.boot_strT rfl) pa_nil))))))))) (pss_one
        (ps_ret pe_non)) pss_nil)
      (pss_cons (ps_if (PW.pt (pw_and (pt_cmpR op_eq (pe_ix ix_tup (pv 1) pe_int (fun _ _ => rfl)) pe_str (nomark _)) (pw_and1 (pt_cmpR op_eq (pe_callB call_len_seq (by rfl) X.len PySem.boot_len (pa_cons (pv 1) pa_nil)) pe_int (nomark _))))) (pss_one
        (ps_ret (pe_ifExp (PW.pt (pw_and (pt_val (pe_call Nm.ok (hr.mono (by omega)) rfl Nm.m Nm.kp Nm.b .nil pass0 (pa_cons (pe_ix ix_tup (pv 1) pe_int (fun _ _ => rfl)) pa_nil))) (pw_and1 (pt_val (pe_meth (pv 0) T.cl Ms.mK Ms.kind (hr.mono (by omega)) Ms.bk .nil pass0 (pa_cons (pe_ix ix_tup (pv 1) pe_int (fun _ _ => rfl)) pa_nil)))))) (pe_ix ix_tup (pv 1) pe_int (fun _ _ => rfl)) pe_non))) pss_nil)
      (pss_cons (ps_if (PW.pt (pw_and (pt_cmpR op_eq (pe_ix ix_tup (pv 1) pe_int (fun _ _ => rfl)) pe_str (nomark _)) (pw_and1 (pt_cmpR op_eq (pe_callB call_len_seq (by rfl) X.len PySem.boot_len (pa_cons (pv 1) pa_nil)) pe_int (nomark _))))) (pss_one
        (ps_ret (pe_ifExp (PW.pt (pw_and (pt_val (pe_call (ok_whole Fh X 0) (hr.mono (by omega)) rfl mh Fh.kp bh .nil pass0 (pa_cons (pe_ix ix_tup (pv 1) pe_int (fun _ _ => rfl)) pa_nil))) (pw_and1 (pt_chain op_le op_lt pe_int (pe_ix ix_tup (pv 1) pe_int (fun _ _ => rfl)) (pe_callB call_len_seq (by rfl) X.len PySem.boot_len (pa_cons (pv 2) pa_nil)))))) (pe_ix ix_tup (pv 2) (pe_ix ix_tup (pv 1) pe_int (fun _ _ => rfl)) (fun _ _ => rfl)) pe_non))) pss_nil)
      (pss_cons (ps_if (PW.pt (pw_and (pt_cmpR op_eq (pe_ix ix_tup (pv 1) pe_int (fun _ _ => rfl)) pe_str (nomark _)) (pw_and1 (pt_cmpR op_eq (pe_callB call_len_seq (by rfl) X.len PySem.boot_len (pa_cons (pv 1) pa_nil)) pe_int (nomark _))))) (pss_one
        (ps_ret (pe_call (KM) (hr.mono (by omega)) rfl mm Fm.kp bm .nil pass0 (pa_cons (pv 0) (pa_cons (pe_ix ix_tup (pv 1) pe_int (fun _ _ => rfl)) (pa_cons (pe_ix ix_tup (pv 1) pe_int (fun _ _ => rfl)) (pa_cons (pv 2) pa_nil))))))) pss_nil)
      (pss_one
        (ps_ret pe_non))))))/-TWE-/, ?_⟩
    have kn0 : ∀ {wd : D} {r : List D}, d = .tup (wd :: r) → wd.isS = false → kw G (h + 1) d as = none := fun e n => kw_n G h as fun w' r' z => by
      rw [e] at z
      injection z with z
      injection z with z1 z2
      rw [z1] at n
      exact nomatch n
    have ret0 : kw G (h + 1) d as = none → Q .non H := fun e => by
      have z := kq H (Kp.refl _) hT
      rw [e] at z
      exact z
    obtain ⟨dx, mk, tk, gv', fa, rt, h0⟩ := hG.obj
    obtain ⟨t, ty, kt, _⟩ := ty_of (K := K) hd
    refine ⟨_, rfl, v, V.ty "tuple", _, _, d.isT, rfl, .ty "tuple", ty, kt, _, rfl, ?_⟩
    cases hd with
    | @tup va vs ds nv hv hl =>
      show (if (!true) = true then _ else _)
      rw [if_neg (by decide)]
      have lvs := hl.length
      refine ⟨_, rfl, _, _, rfl, .inr (SqT.of hv), by show 2 ≤ sizeLine; decide, fun q hq => ?_⟩
      have sQ : Same H (upd H q (.tup [V.int 2, V.int 3])) := KD.Same.upd hq
      have hq1 : upd H q (.tup [V.int 2, V.int 3]) q = some (.tup [V.int 2, V.int 3]) := upd_same
      have tQ := tab_new (o := .tup [V.int 2, V.int 3]) hT hq
      generalize upd H q (.tup [V.int 2, V.int 3]) = H1 at sQ hq1 tQ ⊢
      have kp1 : Kp [Tb] H H1 := Kp.same sQ
      have kM1 : Kp M H H1 := Kp.same sQ
      have ret1 : kw G (h + 1) (.tup ds) as = none → Q .non H1 := fun e => by
        have z := kq H1 kp1 tQ
        rw [e] at z
        exact z
      have hv1 := kM1 _ _ nv hv
      refine ⟨q, _, rfl, .inr (SqT.of hq1), rfl, rfl, _, rfl, ?_⟩
      rw [inV23]
      by_cases hlen : vs.length = 2 ∨ vs.length = 3
      case neg =>
        rw [decide_eq_false hlen]
        show (if (!false) = true then _ else _)
        rw [if_pos (by decide)]
        refine ret1 (kw_n G h as fun w' r' z => ?_)
        injection z with z
        rw [z] at lvs
        have : vs.length = r'.length + 1 := lvs
        omega
      rw [decide_eq_true hlen]
      show (if (!true) = true then _ else _)
      rw [if_neg (by decide)]
      cases hl with
      | nil => exact absurd hlen (by simp)
      | @cons v0 vs d0 ds hD0 hl =>
      obtain ⟨t0, ty0, _, ks0, _⟩ := ty_of (K := K) (hD0.mono kM1)
      refine ⟨_, rfl, _, _, _, _, rfl, rfl, SqT.of hv1, atI_nat (j := 0) rfl, v0, V.ty "str", _, _, d0.isS, rfl, .ty "str", ty0, ks0, _, rfl, ?_⟩
      by_cases hS : d0.isS = true
      case neg =>
        rw [Bool.not_eq_true] at hS
        rw [hS]
        show (if (!false) = true then _ else _)
        rw [if_pos (by decide)]
        exact ret1 (kn0 rfl hS)
      rw [hS]
      show (if (!true) = true then _ else _)
      rw [if_neg (by decide)]
      obtain ⟨wd, rfl⟩ : ∃ wd, d0 = .str wd := by
        cases d0 with
        | str wd => exact ⟨wd, rfl⟩
        | _ => exact nomatch hS
      obtain rfl : v0 = .str wd := by
        cases hD0
        rfl
      have hG1 := hG.mono kM1
      have ha1 := kM1 _ _ na ha
      have h01 : H1 g = some (.ins C dx (GN.gf mk tk gv' fa rt)) := sQ _ _ h0
      cases hl with
      | nil => exact absurd hlen (by simp)
      | @cons v1 vs d1 ds hD1 hl =>
      cases hl with
      | nil =>
        have ek := kw_2 G h wd d1 as
        have n1 : ∀ Qb : Bool → Hp → Prop, Qb false H1 → ∀ b : Bool, (if b = true then (tTest (tOp rEq (tCB (KD.rLenK K) (tCons (tVar 1) tNil)) (tC (V.int 3)))) (L2.start nKw [V.ref g, V.ref va, V.ref a]) H1 Qb else Qb false H1) := fun Qb q b => by
          cases b with
          | true => exact ⟨_, rfl, _, _, rfl, .inr (SqT.of hv1), rfl, false, congrArg V.bl (decide_eq_false (fun z => by injection z with z; simp at z)), q⟩
          | false => exact q
        refine ⟨_, rfl, _, _, _, _, rfl, rfl, SqT.of hv1, atI_nat (j := 0) rfl, rfl, _, rfl, n1 _ (iteF ?_) _⟩
        by_cases wb : wd = "bound"
        case neg =>
          refine ⟨_, rfl, _, _, _, _, rfl, rfl, SqT.of hv1, atI_nat (j := 0) rfl, rfl, false, congrArg V.bl (dF wb), iteF (iteF ?_)⟩
          refine ⟨_, rfl, _, _, _, _, rfl, rfl, SqT.of hv1, atI_nat (j := 0) rfl, rfl, _, rfl, n1 _ (iteF ?_) _⟩
          refine ret1 ?_
          rw [ek, if_neg wb]
        rw [if_pos wb] at ek
        refine ⟨_, rfl, _, _, _, _, rfl, rfl, SqT.of hv1, atI_nat (j := 0) rfl, rfl, true, congrArg V.bl (dT wb), iteT ?_⟩
        refine ⟨_, rfl, _, _, rfl, .inr (SqT.of hv1), rfl, true, congrArg V.bl (decide_eq_true rfl), iteT ?_⟩
        refine ⟨_, rfl, _, _, _, _, rfl, rfl, SqT.of hv1, atI_nat (j := 1) rfl, M, v1, d1, rfl, hD1.mono kM1, _, rfl, ?_⟩
        have kbn : (∀ i, d1 ≠ .int i) → kb d1 as = none := fun n => by
          cases d1 with
          | int i => exact absurd rfl (n i)
          | _ => rfl
        cases hD1 with
        | @int i =>
          show (if (true && !false) = true then _ else _)
          rw [if_pos (by decide)]
          refine ⟨_, rfl, _, _, _, _, rfl, rfl, SqT.of hv1, atI_nat (j := 1) rfl, 0, i, rfl, rfl, _, rfl, ?_⟩
          have ekb : kb (.int i) as = if 0 ≤ i ∧ i < as.length then as[i.toNat]? else none := rfl
          by_cases i0 : 0 ≤ i
          case neg =>
            rw [if_neg (by rw [decide_eq_false i0]; decide)]
            refine ⟨_, rfl, iteF (ret1 ?_)⟩
            rw [ek, ekb, if_neg (fun z => i0 z.1)]
          rw [if_pos (decide_eq_true i0)]
          have lm : ((as.map V.str).length : Int) = as.length := by rw [List.length_map]
          by_cases il : i < (as.length : Int)
          case neg =>
            refine ⟨_, rfl, _, _, rfl, .inr (SqT.of ha1), i, _, rfl, rfl, false, congrArg V.bl (decide_eq_false (by rw [lm]; exact il)), iteF (ret1 ?_)⟩
            rw [ek, ekb, if_neg (fun z => il z.2)]
          refine ⟨_, rfl, _, _, rfl, .inr (SqT.of ha1), i, _, rfl, rfl, true, congrArg V.bl (decide_eq_true (by rw [lm]; exact il)), iteT ?_⟩
          obtain ⟨kd, hkd⟩ : ∃ kd, as[i.toNat]? = some kd := ⟨_, List.getElem?_eq_getElem (by omega)⟩
          have ei : i = ((i.toNat : Nat) : Int) := by omega
          have eat : atI (as.map V.str) i = some (.str kd) := by
            rw [ei]
            exact atI_nat (by rw [List.getElem?_map, hkd]; rfl)
          refine ⟨_, rfl, _, rfl, _, _, _, _, rfl, rfl, SqT.of hv1, atI_nat (j := 1) rfl, _, _, _, _, rfl, rfl, SqT.of ha1, eat, ?_⟩
          have z := kq H1 kp1 tQ
          rw [ek, ekb, if_pos ⟨i0, il⟩, hkd] at z
          exact z
        | bl =>
          show (if (true && !true) = true then _ else _)
          rw [if_neg (by decide)]
          exact iteF (ret1 (by rw [ek]; rfl))
        | _ =>
          show (if (false && !false) = true then _ else _)
          rw [if_neg (by decide)]
          exact iteF (ret1 (by rw [ek]; rfl))
      | @cons v2 vs d2 ds hD2 hl =>
      cases hl with
      | cons _ _ => exact absurd hlen (by simp)
      | nil =>
        have ek := kw_3 G h wd d1 d2 as
        have n2 : ∀ Qb : Bool → Hp → Prop, Qb false H1 → ∀ b : Bool, (if b = true then (tTest (tOp rEq (tCB (KD.rLenK K) (tCons (tVar 1) tNil)) (tC (V.int 2)))) (L2.start nKw [V.ref g, V.ref va, V.ref a]) H1 Qb else Qb false H1) := fun Qb q b => by
          cases b with
          | true => exact ⟨_, rfl, _, _, rfl, .inr (SqT.of hv1), rfl, false, congrArg V.bl (decide_eq_false (fun z => by injection z with z; simp at z)), q⟩
          | false => exact q
        by_cases wn : wd = "name"
        case pos =>
          rw [if_pos wn] at ek
          refine ⟨_, rfl, _, _, _, _, rfl, rfl, SqT.of hv1, atI_nat (j := 0) rfl, rfl, true, congrArg V.bl (dT wn), iteT ?_⟩
          refine ⟨_, rfl, _, _, rfl, .inr (SqT.of hv1), rfl, true, congrArg V.bl (decide_eq_true rfl), iteT ?_⟩
          rw [kn_eq] at ek
          refine ⟨_, rfl, _, _, _, _, rfl, rfl, SqT.of hv1, atI_nat (j := 1) rfl, ?_⟩
          refine goal1 ?_
          refine isname_use (hD1.mono kM1) tQ fun H2 k2 t2 => ⟨_, rfl, ?_⟩
          have k12 : Kp [Tb] H H2 := kp1.trans k2
          have kM2 : Kp M H1 H2 := k2.sub (by simpa using hTM)
          have ret2 : kw G (h + 1) (.tup [.str wd, d1, d2]) as = none → Q .non H2 := fun e => by
            have z := kq H2 k12 t2
            rw [e] at z
            exact z
          refine ite2 (fun hn => ?_) (fun hn => ?_)
          case refine_2 =>
            rw [if_neg hn] at ek
            exact iteF (ret2 ek)
          rw [if_pos hn] at ek
          obtain ⟨dx2, mk2, tk2, gv2, fa2, rt2, h02⟩ := (hG1.mono kM2).obj
          refine ⟨_, rfl, g, dx2, _, rfl, h02, GN.gf_no (by decide +kernel), _, rfl, _, _, _, _, rfl, rfl, SqT.of (kM2 _ _ nv hv1), atI_nat (j := 2) rfl, ?_⟩
          refine goal2 ?_
          refine iskind_use (hG1.mono kM2) ((hD2.mono kM1).mono kM2) ?_
          refine ⟨_, rfl, ?_⟩
          refine ite2 (fun hk => ?_) (fun hk => ?_)
          case refine_2 =>
            rw [if_neg hk] at ek
            exact ret2 ek
          rw [if_pos hk] at ek
          refine ⟨_, rfl, _, _, _, _, rfl, rfl, SqT.of (kM2 _ _ nv hv1), atI_nat (j := 2) rfl, ?_⟩
          have z := kq H2 k12 t2
          rw [ek] at z
          cases hD2 with
          | str _ => exact z
          | _ => exact nomatch hk
        rw [if_neg wn] at ek
        refine ⟨_, rfl, _, _, _, _, rfl, rfl, SqT.of hv1, atI_nat (j := 0) rfl, rfl, false, congrArg V.bl (dF wn), iteF (iteF ?_)⟩
        refine ⟨_, rfl, _, _, _, _, rfl, rfl, SqT.of hv1, atI_nat (j := 0) rfl, rfl, _, rfl, n2 _ (iteF ?_) _⟩
        by_cases wm : wd = "made"
        case neg =>
          refine ⟨_, rfl, _, _, _, _, rfl, rfl, SqT.of hv1, atI_nat (j := 0) rfl, rfl, false, congrArg V.bl (dF wm), iteF (iteF (ret1 ?_))⟩
          rw [ek, if_neg wm]
        rw [if_pos wm] at ek
        refine ⟨_, rfl, _, _, _, _, rfl, rfl, SqT.of hv1, atI_nat (j := 0) rfl, rfl, true, congrArg V.bl (dT wm), iteT ?_⟩
        refine ⟨_, rfl, _, _, rfl, .inr (SqT.of hv1), rfl, true, congrArg V.bl (decide_eq_true rfl), iteT ?_⟩
        refine ⟨_, rfl, _, rfl, _, _, _, _, rfl, rfl, SqT.of hv1, atI_nat (j := 1) rfl, _, rfl, _, _, _, _, rfl, rfl, SqT.of hv1, atI_nat (j := 2) rfl, _, rfl, ?_⟩
        refine ⟨M, g, a, v1, v2, d1, d2, as, G, rfl, hTM, hG1, hD1.mono kM1, hD2.mono kM1, fun ps e p hp => ?_, ⟨na, ha1⟩, tQ, fun H2 k2 t2 => ?_⟩
        · have := hh.2 d2 (by simp)
          rw [e] at this
          exact dh_in this p hp
        · have z := kq H2 (kp1.trans k2) t2
          rw [ek] at z
          exact z
    | _ =>
      show (if (!false) = true then _ else _)
      rw [if_pos (by decide)]
      exact ret0 (kw_n G h as fun w' r' z => nomatch z)
end
end Q3

/-! GK1: D.get(k), D a dict of the module. -/
namespace Q3
open PySem PySem.Spec PyProof.Rows L2
def tKGet (K : PySem.W.Frag) (d : Addr) (td ty : TE) : TE := fun σ H Q => td σ H fun x H1 => x = .ref d ∧ ty σ H1 fun y H2 => ∃ (z : Str) (r : Option Value) (v0 : V), y = .str z ∧ PySem.W.nsIn K d z = some r ∧ RelV v0 (r.getD .none) ∧ Q v0 H2
theorem pe_kdget1 {X : Cx} {o e : Expr} {apos cpos : Pos} {td ty : TE} {d : Addr} {es : Array DictEntry} {n : Nat} (D : KDict X.K X.w d es n) (ho : PE X o td) (he : PE X e ty) (m : M1 X o "get" apos e cpos) : PE X (.Call (.Attribute o "get" apos) [e] [] cpos) (tKGet X.K d td ty) := by
  refine ⟨fun pins s σ H Q I h => ?_⟩
  refine wpAny_Call_method m.base m.few m.line PySem.F.plainAttrs_dict PySem.F.slot_dict_get PySem.F.type_dict_get (thn (ho.run pins s σ H _ I h) fun u s1 ⟨x, H1, I1, rx, ex, q1⟩ => ?_)
  subst ex
  obtain rfl : u = Value.ref d := rx
  refine ⟨kd_type D I1, fun b q => ?_, ?_⟩
  · cases q
    exact ⟨_, I1.kIn _ _ D.at_, rfl⟩
  rw [m.trees]
  refine Calls.callWith_builtin rfl (Calls.evalArgs_plain (Calls.spliced_cons (thn (he.run pins s1 σ H1 _ I1 q1) fun iv s2 ⟨y, H2, I2, ry, z, r, v0, ey, en, rv, q2⟩ => Calls.spliced_nil ?_)))
  subst ey
  obtain ⟨t, rfl⟩ := ry
  refine call_meetsIn PySem.F.slot_dict_get (kd_type D I2) PySem.F.entry_dict_get (PySem.F.args_dict_get_2 _ _) (meets_dict_get (PySem.strKind X.prog X.w) d (PySem.strKind_is X.prog X.w z t) D.low) ⟨_, PySem.W.mapOf_K (prog := X.prog) I2.kIn D.at_ D.lit, ?_⟩
  rw [PySem.W.find_K D.at_ en]
  exact ⟨v0, H2, I2.tok _, rv, q2⟩
end Q3

/-! DD6: _is_within. -/
namespace Q3
open PySem PySem.Spec PyProof.Rows L2 GenW GxR NdefX GX
open KD (top)
theorem cut1 (x : V) (xs : List V) : ¬ HT.sIx (x :: xs).length 0 (some 1) = 0 ∧ cutV (x :: xs) (some 1) none = xs := by
  have e : HT.sIx (x :: xs).length 0 (some 1) = 1 := by
    have q := HT.sIx_nat (x :: xs).length 0 1
    rw [List.length_cons, Nat.min_eq_left (by omega)] at q
    exact q
  refine ⟨by rw [e]; decide, ?_⟩
  unfold cutV
  rw [e, HT.sIx_none, List.length_cons, Nat.add_sub_cancel]
  show xs.take xs.length = xs
  rw [List.take_length]
theorem GrAt.drop {M N : List Addr} {C : Addr} {H : Hp} {g : Addr} {G : Gr} (h : GrAt M C H g G) (s : ∀ x ∈ N, x ∈ M) : GrAt N C H g G := by
  obtain ⟨dx, mk, tk, gv, fa, rt, ms, ts, gs, fs, rs, ⟨n0, h0⟩, ⟨n1, h1⟩, ⟨n2, h2⟩, ⟨n3, h3⟩, ⟨n4, h4⟩, ⟨n5, h5⟩, hk, hf⟩ := h
  refine ⟨dx, mk, tk, gv, fa, rt, ms, ts, gs, fs, rs, ⟨fun z => n0 (s _ z), h0⟩, ⟨fun z => n1 (s _ z), h1⟩, ⟨fun z => n2 (s _ z), h2⟩, ⟨fun z => n3 (s _ z), h3⟩, ⟨fun z => n4 (s _ z), h4⟩, ⟨fun z => n5 (s _ z), h5⟩, hk, fun f => ?_⟩
  have q := hf f
  cases e : G.tg f with
  | none =>
    rw [e] at q
    exact q
  | some r =>
    rw [e] at q
    obtain ⟨t, k'⟩ := r
    obtain ⟨b, nb, h6, h7, h8⟩ := q
    exact ⟨b, fun z => nb (s _ z), h6, h7, h8⟩
theorem tab_ne {T p : Addr} {H : Hp} (h : TabG H T) (e : H p = none) : p ≠ T := by
  obtain ⟨ps, hp, _⟩ := h
  intro z
  rw [z, hp] at e
  exact nomatch e
/-- how long a saying of each word is -/
def lenW (z : Str) : Option Nat := if z = "same" then some 3 else if z = "no" then some 1 else if z = "not" then some 2 else if z = "and" then some 3 else if z = "or" then some 3 else if z = "so" then some 3 else if z = "all" then some 3 else if z = "some" then some 3 else none
def bindsV : List V := [.str "all", .str "some"]
structure LgQ (K : PySem.W.Frag) (w : World) (mg : Str → Option Value) (L B : Addr) (es : Array DictEntry) (n : Nat) : Prop where
  m : mg "LENGTHS" = some (.ref L)
  kd : KDict K w L es n
  len : ∀ z, ∃ r, PySem.W.nsIn K L z = some r ∧ match lenW z with | some k => ∃ t, r = some (.int (k : Nat) t) | none => r = none
  mb : mg "BINDS" = some (.ref B)
  bK : ∀ H : Hp, SqT K H B bindsV
/-- a saying's words, in another order -/
theorem isD_no (G : Gr) (h : Nat) (wd : Str) (ds : List D) (ar : List Str) (n : lenW wd ≠ some (ds.length + 1)) : isD G (h + 1) (.tup (.str wd :: ds)) ar = false := by
  match ds, n with
  | [], n =>
    show decide (wd = "no") = false
    refine decide_eq_false fun e => n ?_
    rw [e]
    decide +kernel
  | [a], n =>
    show (decide (wd = "not") && _) = false
    rw [decide_eq_false (fun e => n (by rw [e]; show lenW _ = some 2; decide +kernel)), Bool.false_and]
  | [a, b], n =>
    show (if wd = "same" then _ else if wd = "and" ∨ wd = "or" ∨ wd = "so" then _ else if wd = "all" ∨ wd = "some" then _ else false) = false
    rw [if_neg (fun e => n (by rw [e]; show lenW _ = some 3; decide +kernel)), if_neg (fun e => n (by rcases e with e | e | e <;> (rw [e]; show lenW _ = some 3; decide +kernel))), if_neg (fun e => n (by rcases e with e | e <;> (rw [e]; show lenW _ = some 3; decide +kernel)))]
  | _ :: _ :: _ :: _, _ => rfl
theorem isD_n (G : Gr) (h : Nat) {d : D} (ar : List Str) (n : ∀ wd r, d ≠ .tup (.str wd :: r)) : isD G (h + 1) d ar = false := by
  match d, n with
  | .non, _ => rfl
  | .bl _, _ => rfl
  | .int _, _ => rfl
  | .str _, _ => rfl
  | .lst _, _ => rfl
  | .dct, _ => rfl
  | .tup [], _ => rfl
  | .tup [.non], _ => rfl
  | .tup [.bl _], _ => rfl
  | .tup [.int _], _ => rfl
  | .tup [.tup _], _ => rfl
  | .tup [.lst _], _ => rfl
  | .tup [.dct], _ => rfl
  | .tup (.non :: _ :: _), _ => rfl
  | .tup (.bl _ :: _ :: _), _ => rfl
  | .tup (.int _ :: _ :: _), _ => rfl
  | .tup (.tup _ :: _ :: _), _ => rfl
  | .tup (.lst _ :: _ :: _), _ => rfl
  | .tup (.dct :: _ :: _), _ => rfl
  | .tup (.str wd :: r), n => exact absurd rfl (n wd r)
/-- the words that join: all parts are sayings -/
theorem isD_all (G : Gr) (h : Nat) (wd : Str) (ds : List D) (ar : List Str) (n : lenW wd = some (ds.length + 1)) (n1 : wd ≠ "same") (n2 : wd ≠ "all") (n3 : wd ≠ "some") : isD G (h + 1) (.tup (.str wd :: ds)) ar = ds.all fun p => isD G h p ar := by
  match ds, n with
  | [], n =>
    show decide (wd = "no") = true
    refine decide_eq_true ?_
    unfold lenW at n
    split at n
    · cases n
    · split at n
      · assumption
      · repeat (first | (split at n; · cases n) | cases n)
  | [a], n =>
    show (decide (wd = "not") && isD G h a ar) = (isD G h a ar && true)
    have e : wd = "not" := by
      unfold lenW at n
      by_cases e : wd = "not"
      · exact e
      · rw [if_neg e] at n
        repeat (first | (split at n; · cases n) | cases n)
    rw [decide_eq_true e, Bool.true_and, Bool.and_true]
  | [a, b], n =>
    show (if wd = "same" then _ else if wd = "and" ∨ wd = "or" ∨ wd = "so" then _ else if wd = "all" ∨ wd = "some" then _ else false) = (isD G h a ar && (isD G h b ar && true))
    have e : wd = "and" ∨ wd = "or" ∨ wd = "so" := by
      by_cases e : wd = "and" ∨ wd = "or" ∨ wd = "so"
      · exact e
      · simp only [not_or] at e
        unfold lenW at n
        rw [if_neg n1, if_neg e.1, if_neg e.2.1, if_neg e.2.2, if_neg n2, if_neg n3] at n
        repeat (first | (split at n; · cases n) | cases n)
    rw [if_neg n1, if_pos e, Bool.and_true]
  | _ :: _ :: _ :: _, n =>
    exfalso
    unfold lenW at n
    simp only [List.length_cons] at n
    repeat (first | (split at n; · (injection n with n; omega)) | cases n)
def spWi (C Tb Tw : Addr) (h : Nat) : Sp := fun vs H Q _ => ∃ (M : List Addr) (g a : Addr) (v : V) (d : D) (as : List Str) (G : Gr), vs = [.ref g, v, .ref a] ∧ (Tb ∈ M ∧ Tw ∈ M ∧ Tb ≠ Tw) ∧ GrAt M C H g G ∧ DS M H v d ∧ dh h d ∧ as.length + h ≤ 300 ∧ (a ∉ M ∧ H a = some (.tup (as.map V.str))) ∧ TabG H Tb ∧ TabG H Tw ∧ ∀ H', Kp [Tb, Tw] H H' → TabG H' Tb → TabG H' Tw → Q (.bl (isD G h d as)) H'
abbrev sWi : Stmt := top 21
abbrev nWi : List Str := ["ground", "thing", "around", "word", "kind", "part"]
abbrev pWi : List Str := ["ground", "thing", "around"]
theorem scWi : FnScope nWi pWi (defScope sWi) := ⟨rfl, rfl, rfl, by decide +kernel, rfl, by decide +kernel, by decide +kernel⟩
section
variable {P : Program} {w : World} {K : PySem.W.Frag} {mg : Str → Option Value} {base : Heap} {f c fm fw fh C Tb Tw W L B : Addr} {fd fdm fdw fdh : FuncData} {es : Array DictEntry} {nn : Nat}
theorem ok_wi (F : FunT K "_is_within" "_is_within" sWi f fd c) (b : Binds K fd pWi []) (m : mg "_is_within" = some (.ref f)) (TW : TabB base mg c Tw) (Lg : LgQ K w mg L B es nn) (Fw : Fun K "kind_within" "kind_within" sKw fw fdw) (bw : Binds K fdw nKw []) (mw : mg "kind_within" = some (.ref fw)) (Fm : Fun K "_kind_made" "_kind_made" sKm fm fdm) (bm : Binds K fdm pKm []) (mm : mg "_kind_made" = some (.ref fm)) (Nm : NmQ P w K mg base Tb W) (Fh : Fun K "is_whole" "is_whole" (top 6) fh fdh) (bh : Binds K fdh ["thing"] []) (mh : mg "is_whole" = some (.ref fh)) (X : TxQ mg) (T : GN.TxtG K mg C) (Ms : MsQ P w K mg base C) :
    ∀ h, FnOk P w K mg base CX0 (8 + 3 * h) f fd pWi (spWi C Tb Tw h)
  | 0 => by
    refine F.ok scWi (fun vs H Q E h => ?_) (fun A0 outer s H vs Q E hr h => ?_)
    · obtain ⟨M, g, a, v, d, as, G, rfl, _⟩ := h
      rfl
    · obtain ⟨M, g, a, v, d, as, G, rfl, _, _, _, z, _⟩ := h
      exact z.elim
  | h + 1 => by
    have IH := ok_wi F b m TW Lg Fw bw mw Fm bm mm Nm Fh bh mh X T Ms h
    rw [show 8 + 3 * (h + 1) = (8 + 3 * h + 2) + 1 by omega]
    refine F.ok scWi (fun vs H Q E h => ?_) (fun A0 outer s H vs Q E hr hq => ?_)
    · obtain ⟨M, g, a, v, d, as, G, rfl, _⟩ := h
      rfl
    obtain ⟨M0, g, a, v, d, as, G, rfl, ⟨hTM0, hWM0, hTW⟩, hG, hd, hh, has, ⟨na, ha⟩, hT, hW, kq⟩ := hq
    have subM0 : ∀ x ∈ [Tb, Tw], x ∈ M0 := fun x hx => by
      simp at hx
      rcases hx with rfl | rfl
      · exact hTM0
      · exact hWM0
    replace hG := hG.drop subM0
    replace hd := hd.drop subM0
    replace na : a ∉ [Tb, Tw] := fun z => na (subM0 _ z)
    have hTM : Tb ∈ [Tb, Tw] := by simp
    have hWM : Tw ∈ [Tb, Tw] := by simp
    generalize hM : [Tb, Tw] = M at hG hd na hTM hWM
    refine ⟨_, /-T-/(pss_cons (ps_if (PW.pt (pw_or (pt_not (pt_val (pe_callB call_isi (by rfl) X.isi GN.boot_isi (pa_cons (pv 1) (pa_cons (pe_bltn (v := .ty "tuple") rfl X.tup boot_tupT rfl) pa_nil))))) (pw_or (pt_cmpR op_eq (pe_callB call_len_seq (by rfl) X.len PySem.boot_len (pa_cons (pv 1) pa_nil)) pe_int (nomark _)) (pw_or1 (pt_not (pt_val (pe_callB call_isi (by rfl) X.isi GN.boot_isi (pa_cons (pe_ix ix_tup (pv 1) pe_int (fun _ _ => rfl)) (pa_cons (pe_bltn (v := .ty "str") rfl X.str GN.boot_strT rfl) pa_nil))))))))) (pss_one
        (ps_ret pe_bl)) pss_nil)
      (pss_cons (ps_set (i := 3) scWi.nd rfl (Or.inl rfl) (pe_ix ix_tup (pv 1) pe_int (fun _ _ => rfl)))
      (pss_cons (ps_if (pt_cmpR op_ne (pe_kdget1 Lg.kd (pe_glob (v := .ref L) rfl Lg.m rfl) (pv 3) ⟨by rfl, by rfl, by rfl, by rfl⟩) (pe_callB call_len_seq (by rfl) X.len PySem.boot_len (pa_cons (pv 1) pa_nil)) (nomark _)) (pss_one
        (ps_ret pe_bl)) pss_nil)
      (pss_cons (ps_if (pt_cmpR op_eq (pv 3) pe_str (nomark _)) (pss_cons (ps_set (i := 4) scWi.nd rfl (Or.inl rfl) (pe_call (ok_kw Fw bw mw Fm bm mm Nm Fh bh mh X T Ms h) (hr.mono (by omega)) rfl mw Fw.kp bw .nil pass0 (pa_cons (pv 0) (pa_cons (pe_ix ix_tup (pv 1) pe_int (fun _ _ => rfl)) (pa_cons (pv 2) pa_nil)))))
      (pss_one
        (ps_ret (pe_and (pe_cmpR op_notN (pv 4) pe_non (nomark _)) (pe_one (pe_cmpR op_eq (pv 4) (pe_call (ok_kw Fw bw mw Fm bm mm Nm Fh bh mh X T Ms h) (hr.mono (by omega)) rfl mw Fw.kp bw .nil pass0 (pa_cons (pv 0) (pa_cons (pe_ix ix_tup (pv 1) pe_int (fun _ _ => rfl)) (pa_cons (pv 2) pa_nil)))) (nomark _))))))) pss_nil)
      (pss_cons (ps_if (pt_cmpR op_in_seq (pv 3) (pe_glob (v := .ref B) rfl Lg.mb rfl) (by rfl)) (pss_one
        (ps_ret (pe_and (pe_meth (pv 0) T.cl Ms.mK Ms.kind (hr.mono (by omega)) Ms.bk .nil pass0 (pa_cons (pe_ix ix_tup (pv 1) pe_int (fun _ _ => rfl)) pa_nil)) (pe_one (pe_call IH (hr.mono (by omega)) rfl m F.kp b .nil pass0 (pa_cons (pv 0) (pa_cons (pe_ix ix_tup (pv 1) pe_int (fun _ _ => rfl)) (pa_cons (pe_op op_catA (pe_tup (pa_cons (pe_ix ix_tup (pv 1) pe_int (fun _ _ => rfl)) pa_nil)) (pv 2)) pa_nil)))))))) pss_nil)
      (pss_one
        (ps_ret (pe_allGx (k := 8 + 3 * h) (own := [("part", 5)]) (g := gName 5) (tt := tYes) (te := tCall (spWi C Tb Tw h) [] E0 (tCons (tVar 0) (tCons (tVar 5) (tCons (tVar 2) tNil)))) hr rfl scWi.nd rfl X.all GN.boot_all TW rfl (gxS (N := nWi) (sc := defScope sWi) (by decide +kernel) rfl (by decide +kernel) (by decide +kernel)) (pi_tup (pe_slice sl_tupA (pv 1) (po_some pe_int) po_none)) (fun _ _ _ _ _ _ => pg_name (i := 5) scWi.nd rfl (Or.inl rfl)) (fun _ _ _ _ _ _ _ => pts_nil) (fun _ _ _ _ _ _ rm => (pe_call IH rm rfl m F.kp b .nil pass0 (pa_cons (pv 0) (pa_cons (pv 5) (pa_cons (pv 2) pa_nil)))))))))))))/-E-/, ?_⟩
    obtain ⟨dx, mk, tk, gv', fa, rt, h0⟩ := hG.obj
    obtain ⟨t, ty, kt, _⟩ := ty_of (K := K) hd
    have ret0 : ∀ b, isD G (h + 1) d as = b → Q (.bl b) H := fun b e => by
      have z := kq H (Kp.refl _) hT hW
      rw [e] at z
      exact z
    refine ⟨_, rfl, v, V.ty "tuple", _, _, d.isT, rfl, .ty "tuple", ty, kt, _, rfl, ?_⟩
    cases hd with
    | @tup va vs ds nv hv hl =>
      show (if (!true) = true then _ else _)
      rw [if_neg (by decide)]
      cases hl with
      | nil =>
        refine ⟨_, rfl, _, _, rfl, .inr (SqT.of hv), rfl, true, congrArg V.bl (decide_eq_true rfl), iteT ?_⟩
        exact ret0 _ rfl
      | @cons v0 vs d0 ds hD0 hl =>
      refine ⟨_, rfl, _, _, rfl, .inr (SqT.of hv), rfl, false, congrArg V.bl (decide_eq_false (fun z => by injection z with z; simp at z; omega)), iteF ?_⟩
      obtain ⟨t0, ty0, _, ks0, _⟩ := ty_of (K := K) hD0
      refine ⟨_, rfl, _, _, _, _, rfl, rfl, SqT.of hv, atI_nat (j := 0) rfl, v0, V.ty "str", _, _, d0.isS, rfl, .ty "str", ty0, ks0, _, rfl, ?_⟩
      by_cases hS : d0.isS = true
      case neg =>
        rw [Bool.not_eq_true] at hS
        rw [hS]
        show (if (!false) = true then _ else _)
        rw [if_pos (by decide)]
        refine ret0 _ (isD_n G h as fun w' r' z => ?_)
        injection z with z
        injection z with z1 z2
        rw [z1] at hS
        exact nomatch hS
      rw [hS]
      show (if (!true) = true then _ else _)
      rw [if_neg (by decide)]
      obtain ⟨wd, rfl⟩ : ∃ wd, d0 = .str wd := by
        cases d0 with
        | str wd => exact ⟨wd, rfl⟩
        | _ => exact nomatch hS
      obtain rfl : v0 = .str wd := by
        cases hD0
        rfl
      have lvs := hl.length
      refine ⟨_, rfl, _, _, _, _, rfl, rfl, SqT.of hv, atI_nat (j := 0) rfl, ?_⟩
      obtain ⟨r, en, er⟩ := Lg.len wd
      by_cases hlen : lenW wd = some (ds.length + 1)
      case neg =>
        have e0 := isD_no G h wd ds as hlen
        cases el : lenW wd with
        | none =>
          rw [el] at er
          refine ⟨rfl, _, rfl, wd, r, .non, rfl, en, by rw [er]; rfl, _, rfl, _, _, rfl, .inr (SqT.of hv), rfl, true, ?_, iteT (ret0 _ e0)⟩
          rw [decide_eq_false (fun z => nomatch z)]
          rfl
        | some k =>
          rw [el] at er
          obtain ⟨tt, er⟩ := er
          refine ⟨rfl, _, rfl, wd, r, .int (k : Nat), rfl, en, by rw [er]; exact ⟨tt, rfl⟩, _, rfl, _, _, rfl, .inr (SqT.of hv), rfl, true, ?_, iteT (ret0 _ e0)⟩
          rw [decide_eq_false (fun z => hlen ?_)]
          · rfl
          · injection z with z
            rw [List.length_cons] at z
            rw [el, ← lvs]
            congr 1
            omega
      rw [hlen] at er
      obtain ⟨tt, er⟩ := er
      refine ⟨rfl, _, rfl, wd, r, .int ((ds.length + 1 : Nat) : Int), rfl, en, by rw [er]; exact ⟨tt, rfl⟩, _, rfl, _, _, rfl, .inr (SqT.of hv), rfl, false, ?_, iteF ?_⟩
      · rw [decide_eq_true (by rw [List.length_cons, lvs])]
        rfl
      have sub1 : ∀ x ∈ [Tb], x ∈ [Tb, Tw] := fun x hx => by simp at hx; simp [hx]
      have subM : ∀ x ∈ [Tb, Tw], x ∈ M := fun x hx => by
        rw [← hM]
        exact hx
      by_cases ws : wd = "same"
      case pos =>
        refine ⟨_, rfl, rfl, true, congrArg V.bl (dT ws), iteT ?_⟩
        rw [ws, show lenW "same" = some 3 by decide +kernel] at hlen
        have l2 : ds.length = 2 := by
          injection hlen with hlen
          omega
        match ds, l2 with
        | [d1, d2], _ =>
        cases hl with
        | @cons v1 _ _ _ hD1 hl =>
        cases hl with
        | @cons v2 _ _ _ hD2 hl =>
        cases hl
        have ek : isD G (h + 1) (.tup [.str wd, d1, d2]) as = ((kw G h d1 as).isSome && decide (kw G h d1 as = kw G h d2 as)) := by
          show (if wd = "same" then _ else _) = _
          rw [if_pos ws]
        refine ⟨_, rfl, _, rfl, _, _, _, _, rfl, rfl, SqT.of hv, atI_nat (j := 1) rfl, _, rfl, M, g, a, v1, d1, as, G, rfl, hTM, hG, hD1, hh.2 d1 (by simp), ⟨na, ha⟩, hT, fun H1 k1 t1 => ?_⟩
        have kM1 : Kp M H H1 := k1.sub (by simpa using hTM)
        have w1 := tab_kp hW k1 (by simpa using Ne.symm hTW)
        cases e1 : kw G h d1 as with
        | none =>
          refine ⟨_, rfl, rfl, false, congrArg V.bl (by rw [show decide (oV none = V.non) = true from decide_eq_true rfl]; rfl), iteF ?_⟩
          have z := kq H1 (k1.sub sub1) t1 w1
          rw [ek, e1] at z
          exact z
        | some kd =>
          refine ⟨_, rfl, rfl, true, congrArg V.bl (by rw [show decide (oV (some kd) = V.non) = false from decide_eq_false (fun z => nomatch z)]; rfl), iteT ?_⟩
          refine ⟨_, rfl, _, rfl, _, rfl, _, _, _, _, rfl, rfl, SqT.of (kM1 _ _ nv hv), atI_nat (j := 2) rfl, _, rfl, M, g, a, v2, d2, as, G, rfl, hTM, hG.mono kM1, hD2.mono kM1, hh.2 d2 (by simp), ⟨na, kM1 _ _ na ha⟩, t1, fun H2 k2 t2 => ?_⟩
          have w2 := tab_kp w1 k2 (by simpa using Ne.symm hTW)
          have z := kq H2 ((k1.trans k2).sub sub1) t2 w2
          rw [ek, e1] at z
          cases e2 : kw G h d2 as with
          | none =>
            rw [e2] at z
            exact ⟨rfl, z⟩
          | some kd2 =>
            rw [e2] at z
            refine ⟨rfl, ?_⟩
            have ed : (decide (V.str kd = V.str kd2)) = ((some kd).isSome && decide (some kd = some kd2)) := by
              by_cases q : kd = kd2
              · rw [q, decide_eq_true rfl, decide_eq_true rfl]
                rfl
              · rw [dF q, decide_eq_false (fun z => q (Option.some.inj z))]
                rfl
            rw [← ed] at z
            exact z
      refine ⟨_, rfl, rfl, false, congrArg V.bl (dF ws), iteF ?_⟩
      have eB : inV (.str wd) bindsV = decide (wd = "all" ∨ wd = "some") := by
        unfold inV bindsV
        simp only [List.any_cons, List.any_nil, Bool.or_false]
        show ((Str.ofString "all" == wd) || (Str.ofString "some" == wd)) = _
        by_cases a1 : wd = "all"
        · rw [a1]
          decide +kernel
        · by_cases a2 : wd = "some"
          · rw [a2]
            decide +kernel
          · have b1 : ((Str.ofString "all") == wd) = false := by simpa using fun e => a1 e.symm
            have b2 : ((Str.ofString "some") == wd) = false := by simpa using fun e => a2 e.symm
            rw [b1, b2, decide_eq_false (by simp [a1, a2])]
            rfl
      by_cases wb : wd = "all" ∨ wd = "some"
      case pos =>
        have l2 : ds.length = 2 := by
          rcases wb with e | e
          · rw [e, show lenW "all" = some 3 by decide +kernel] at hlen
            injection hlen with hlen
            omega
          · rw [e, show lenW "some" = some 3 by decide +kernel] at hlen
            injection hlen with hlen
            omega
        match ds, l2 with
        | [d1, d2], _ =>
        cases hl with
        | @cons v1 _ _ _ hD1 hl =>
        cases hl with
        | @cons v2 _ _ _ hD2 hl =>
        cases hl
        have ek : isD G (h + 1) (.tup [.str wd, d1, d2]) as = (kindD G d1 && isD G h d2 (strD d1 :: as)) := by
          show (if wd = "same" then _ else if wd = "and" ∨ wd = "or" ∨ wd = "so" then _ else if wd = "all" ∨ wd = "some" then _ else false) = _
          rw [if_neg ws, if_neg ?_, if_pos wb]
          rcases wb with e | e <;> (rw [e]; decide +kernel)
        refine ⟨_, rfl, B, bindsV, rfl, .inr (Lg.bK _), rfl, by decide, true, by rw [eB, decide_eq_true wb]; rfl, iteT ?_⟩
        refine ⟨_, rfl, g, dx, _, rfl, h0, GN.gf_no (by decide +kernel), _, rfl, _, _, _, _, rfl, rfl, SqT.of hv, atI_nat (j := 1) rfl, ?_⟩
        refine goal2 ?_
        refine iskind_use hG hD1 ?_
        refine ⟨_, rfl, ?_⟩
        by_cases hk : kindD G d1 = true
        case neg =>
          rw [Bool.not_eq_true] at hk
          rw [hk]
          refine iteF (ret0 _ ?_)
          rw [ek, hk]
          rfl
        rw [hk]
        refine iteT ?_
        obtain ⟨kd, rfl⟩ : ∃ kd, d1 = .str kd := by
          cases d1 with
          | str kd => exact ⟨kd, rfl⟩
          | _ => exact nomatch hk
        obtain rfl : v1 = .str kd := by
          cases hD1
          rfl
        rw [hk, Bool.true_and] at ek
        refine ⟨_, rfl, _, rfl, _, _, _, _, rfl, rfl, SqT.of hv, atI_nat (j := 2) rfl, _, rfl, _, _, _, _, rfl, rfl, SqT.of hv, atI_nat (j := 1) rfl, by show 1 ≤ sizeLine; decide, fun q hq => ?_⟩
        have s1 : Same H (upd H q (.tup [V.str kd])) := KD.Same.upd hq
        have nM : ∀ {x : Addr} {H1 : Hp}, Same H H1 → H1 x = none → x ∉ M := fun {x H1} s e => by
          rw [← hM]
          simp [tab_ne (tab_kp hT (Kp.same (M := []) s) (by simp)) e, tab_ne (tab_kp hW (Kp.same (M := []) s) (by simp)) e]
        have fin : ∀ {H1 : Hp} {z : Addr}, Same H H1 → z ∉ M → H1 z = some (.tup ((kd :: as).map V.str)) → spWi C Tb Tw h [.ref g, v2, .ref z] H1 Q E0 := fun {H1 z} s nz hz => by
          have k1 : Kp M H H1 := Kp.same s
          refine ⟨M, g, z, v2, d2, kd :: as, G, rfl, ⟨hTM, hWM, hTW⟩, hG.mono k1, hD2.mono k1, hh.2 d2 (by simp), by rw [List.length_cons]; omega, ⟨nz, hz⟩, tab_kp hT (Kp.same (M := []) s) (by simp), tab_kp hW (Kp.same (M := []) s) (by simp), fun H2 k2 t2 w2 => ?_⟩
          have z := kq H2 ((Kp.same s).trans k2) t2 w2
          rw [ek] at z
          exact z
        refine ⟨_, rfl, q, a, _, _, rfl, rfl, SqT.of upd_same, SqT.of (s1 _ _ ha), ?_, (fun z => nomatch z), fun _ z => ?_, fun _ _ x hx => ?_⟩
        · rw [List.length_map]
          exact Nat.le_trans (show 1 + as.length ≤ 1000 by omega) (by decide)
        · refine fin s1 (nM (H1 := H) (fun _ _ e => e) hq) ?_
          rw [List.map_cons, z]
          exact upd_same
        · exact fin (s1.trans (KD.Same.upd hx)) (nM s1 hx) upd_same
      refine ⟨_, rfl, B, bindsV, rfl, .inr (Lg.bK _), rfl, by decide, false, by rw [eB, decide_eq_false wb]; rfl, iteF ?_⟩
      have wb' : wd ≠ "all" ∧ wd ≠ "some" := by simpa using wb
      have ea := isD_all G h wd ds as hlen ws wb'.1 wb'.2
      refine ⟨_, rfl, 1, rfl, _, _, rfl, SqT.of hv, fun z => absurd z.1 (cut1 _ _).1, fun _ p3 hp3 => ?_⟩
      rw [(cut1 _ _).2]
      have s3 : Same H (upd H p3 (.tup vs)) := KD.Same.upd hp3
      have h3 : upd H p3 (.tup vs) p3 = some (.tup vs) := upd_same
      have t3 := tab_new (o := .tup vs) hT hp3
      have w3 := tab_new (o := .tup vs) hW hp3
      have np3 : p3 ∉ [Tb, Tw] := fun z => by
        simp at z
        rcases z with rfl | rfl
        · obtain ⟨ps, hps, _⟩ := hT
          rw [hp3] at hps
          exact nomatch hps
        · obtain ⟨ps, hps, _⟩ := hW
          rw [hp3] at hps
          exact nomatch hps
      generalize upd H p3 (.tup vs) = H3 at s3 h3 t3 w3 ⊢
      refine ⟨p3, rfl, ⟨_, SqT.of h3⟩, w3, _, fun H2 t2 => ⟨vs.length, rfl, Nat.zero_le _, ?_⟩, gxt_yes vs.length (fun i H' => Kp [Tb, Tw] H3 H' ∧ TabG H' Tb ∧ TabG H' Tw ∧ ((ds.take i).all fun p => isD G h p as) = true) (fun i H' hi q => ⟨_, _, SqT.of (q.1 _ _ np3 h3), List.getElem?_eq_getElem hi⟩) (fun H' q => ⟨_, SqT.of (q.1 _ _ np3 h3), Nat.le_refl _⟩) (fun H' q => ?_) (fun v => rfl) (fun i x H1 H2 hi q y => ?_)⟩
      · have z := kq H' ((Kp.same s3).trans q.1) q.2.1 q.2.2.1
        rw [ea] at z
        have e2 := q.2.2.2
        rw [lvs, List.take_length] at e2
        rw [e2] at z
        exact z
      · obtain ⟨rfl, y⟩ := y
        have hx := y _ (SqT.of (q.1 _ _ np3 h3))
        obtain ⟨dx', hdx, hDx⟩ := hl.get hx
        have k01 : Kp [Tb, Tw] H H2 := (Kp.same s3).trans q.1
        have kM1 : Kp M H H2 := k01.sub subM
        refine ⟨_, rfl, _, rfl, _, rfl, M, g, a, x, dx', as, G, rfl, ⟨hTM, hWM, hTW⟩, hG.mono kM1, hDx.mono kM1, hh.2 dx' (List.mem_cons_of_mem _ (List.mem_of_getElem? hdx)), by omega, ⟨na, kM1 _ _ na ha⟩, q.2.1, q.2.2.1, fun H4 k4 t4 w4 => ⟨_, rfl, fun ec => ?_, fun nc => ⟨q.1.trans k4, t4, w4, ?_⟩⟩⟩
        · have z := kq H4 (k01.trans k4) t4 w4
          rw [ea, List.all_eq_false.mpr ⟨dx', List.mem_of_getElem? hdx, by rw [ec]; decide⟩] at z
          exact z
        · rw [List.take_succ, hdx, List.all_append, q.2.2.2]
          simpa using nc
      · exact ⟨(Kp.tabbed t2).sub (fun x hx => by simp at hx; simp [hx]), tab_kp t3 (Kp.tabbed t2) (by simpa using hTW), t2.1, rfl⟩
    | _ =>
      show (if (!false) = true then _ else _)
      rw [if_pos (by decide)]
      exact ret0 _ (isD_n G h as fun w' r' z => nomatch z)
end
end Q3

/-! DD7: is_saying, is_body; inner_of, signs_of of what is a saying. -/
namespace Q3
open PySem PySem.Spec PyProof.Rows L2 GenW GxR NdefX GX
open KD (top)
/-- what stands within -/
def innD : D → List D
  | .tup [.str _] => []
  | .tup [.str wd, a] => if wd = "bound" then [] else [a]
  | .tup [.str wd, a, b] => if wd = "name" then [] else if wd = "made" then (match b with | .tup ps => ps | _ => []) else if wd = "all" ∨ wd = "some" then [b] else [a, b]
  | _ => []
/-- terms and sayings, whatever their kinds -/
def Wf : Nat → D → Prop
  | 0, _ => False
  | _ + 1, .tup [.str wd] => wd = "no"
  | h + 1, .tup [.str wd, a] => (wd = "bound" ∧ a.isT = false) ∨ (wd = "not" ∧ Wf h a)
  | h + 1, .tup [.str wd, a, b] => (wd = "name" ∧ a.isT = false ∧ b.isT = false) ∨ (wd = "made" ∧ a.isT = false ∧ ∃ ps, b = .tup ps ∧ ∀ p ∈ ps, Wf h p) ∨ ((wd = "same" ∨ wd = "and" ∨ wd = "or" ∨ wd = "so") ∧ Wf h a ∧ Wf h b) ∨ ((wd = "all" ∨ wd = "some") ∧ a.isT = false ∧ Wf h b)
  | _, _ => False
def sg : Nat → D → Nat
  | 0, _ => 0
  | h + 1, d => 1 + ((innD d).map (sg h)).sum
theorem wf_kw {G : Gr} : ∀ {h : Nat} {d : D} {as : List Str} {k : Str}, kw G h d as = some k → Wf h d
  | 0, d, as, k, e => by
    rw [show kw G 0 d as = none from rfl] at e
    exact nomatch e
  | h + 1, d, as, k, e => by
    by_cases hd : ∃ wd r, d = .tup (.str wd :: r) ∧ (r.length = 1 ∨ r.length = 2)
    · obtain ⟨wd, r, rfl, l⟩ := hd
      match r, l with
      | [a], _ =>
        rw [kw_2] at e
        by_cases w : wd = "bound"
        · refine .inl ⟨w, ?_⟩
          rw [if_pos w] at e
          cases a with
          | tup xs => exact nomatch e
          | _ => rfl
        · rw [if_neg w] at e
          exact nomatch e
      | [a, b], _ =>
        rw [kw_3] at e
        by_cases w : wd = "name"
        · rw [if_pos w] at e
          refine .inl ⟨w, ?_⟩
          cases a <;> cases b <;> first | exact ⟨rfl, rfl⟩ | exact nomatch e
        · rw [if_neg w] at e
          by_cases w2 : wd = "made"
          · rw [if_pos w2] at e
            refine .inr (.inl ⟨w2, ?_⟩)
            cases a with
            | str fn =>
              cases b with
              | tup ps =>
                refine ⟨rfl, ps, rfl, fun p hp => ?_⟩
                have e' : (match G.tg fn with | some (ts, gv) => if ps.map (fun p => kw G h p as) = ts.map some then some gv else none | none => none) = some k := e
                cases et : G.tg fn with
                | none => rw [et] at e'; exact nomatch e'
                | some r =>
                  rw [et] at e'
                  obtain ⟨ts, gv⟩ := r
                  have e2 : (if ps.map (fun p => kw G h p as) = ts.map some then some gv else none) = some k := e'
                  by_cases q : ps.map (fun p => kw G h p as) = ts.map some
                  · have m : kw G h p as ∈ ts.map some := by
                      rw [← q]
                      exact List.mem_map.mpr ⟨p, hp, rfl⟩
                    obtain ⟨t, _, ht⟩ := List.mem_map.mp m
                    exact wf_kw ht.symm
                  · rw [if_neg q] at e2
                    exact nomatch e2
              | _ => exact nomatch e
            | _ => exact nomatch e
          · rw [if_neg w2] at e
            exact nomatch e
    · rw [kw_n G h as (fun wd r z => ⟨fun l => hd ⟨wd, r, z, .inl l⟩, fun l => hd ⟨wd, r, z, .inr l⟩⟩)] at e
      exact nomatch e
theorem wf_is {G : Gr} : ∀ {h : Nat} {d : D} {as : List Str}, isD G h d as = true → Wf h d
  | 0, d, as, e => by
    rw [show isD G 0 d as = false from rfl] at e
    exact nomatch e
  | h + 1, d, as, e => by
    by_cases hd : ∃ wd r, d = .tup (.str wd :: r)
    · obtain ⟨wd, r, rfl⟩ := hd
      match r, e with
      | [], e =>
        show wd = "no"
        exact of_decide_eq_true e
      | [a], e =>
        have e' : (decide (wd = "not") && isD G h a as) = true := e
        rw [Bool.and_eq_true] at e'
        exact .inr ⟨of_decide_eq_true e'.1, wf_is e'.2⟩
      | [a, b], e =>
        have e' : (if wd = "same" then (kw G h a as).isSome && decide (kw G h a as = kw G h b as) else if wd = "and" ∨ wd = "or" ∨ wd = "so" then isD G h a as && isD G h b as else if wd = "all" ∨ wd = "some" then kindD G a && isD G h b (strD a :: as) else false) = true := e
        by_cases w1 : wd = "same"
        · rw [if_pos w1, Bool.and_eq_true] at e'
          obtain ⟨e1, e2⟩ := e'
          have e2 := of_decide_eq_true e2
          cases ek : kw G h a as with
          | none => rw [ek] at e1; exact nomatch e1
          | some k => exact .inr (.inr (.inl ⟨.inl w1, wf_kw ek, wf_kw (e2.symm.trans ek)⟩))
        rw [if_neg w1] at e'
        by_cases w2 : wd = "and" ∨ wd = "or" ∨ wd = "so"
        · rw [if_pos w2, Bool.and_eq_true] at e'
          exact .inr (.inr (.inl ⟨.inr w2, wf_is e'.1, wf_is e'.2⟩))
        rw [if_neg w2] at e'
        by_cases w3 : wd = "all" ∨ wd = "some"
        · rw [if_pos w3, Bool.and_eq_true] at e'
          refine .inr (.inr (.inr ⟨w3, ?_, wf_is e'.2⟩))
          cases a with
          | tup xs => exact nomatch e'.1
          | _ => rfl
        rw [if_neg w3] at e'
        exact nomatch e'
      | _ :: _ :: _ :: _, e => exact nomatch e
    · rw [isD_n G h as (fun wd r z => hd ⟨wd, r, z⟩)] at e
      exact nomatch e
theorem wf_in : ∀ {h : Nat} {d : D}, Wf (h + 1) d → ∀ p ∈ innD d, Wf h p
  | h, .tup [.str wd], w, p, hp => nomatch hp
  | h, .tup [.str wd, a], w, p, hp => by
    rcases w with ⟨e, _⟩ | ⟨e, wa⟩
    · rw [show innD (.tup [.str wd, a]) = if wd = "bound" then [] else [a] from rfl, if_pos e] at hp
      exact nomatch hp
    · rw [show innD (.tup [.str wd, a]) = if wd = "bound" then [] else [a] from rfl, if_neg (by rw [e]; decide +kernel)] at hp
      rw [List.mem_singleton.mp hp]
      exact wa
  | h, .tup [.str wd, a, b], w, p, hp => by
    have hp : p ∈ (if wd = "name" then [] else if wd = "made" then (match b with | .tup ps => ps | _ => []) else if wd = "all" ∨ wd = "some" then [b] else [a, b]) := hp
    rcases w with ⟨e, _⟩ | ⟨e, _, ps, rfl, q⟩ | ⟨e, w1, w2⟩ | ⟨e, _, w2⟩
    · rw [if_pos e] at hp
      exact nomatch hp
    · rw [if_neg (by rw [e]; decide +kernel), if_pos e] at hp
      exact q p hp
    · rw [if_neg (by rcases e with e | e | e | e <;> (rw [e]; decide +kernel)), if_neg (by rcases e with e | e | e | e <;> (rw [e]; decide +kernel)), if_neg (by rcases e with e | e | e | e <;> (rw [e]; decide +kernel))] at hp
      rcases List.mem_cons.mp hp with rfl | hp
      · exact w1
      · rw [List.mem_singleton.mp hp]
        exact w2
    · rw [if_neg (by rcases e with e | e <;> (rw [e]; decide +kernel)), if_neg (by rcases e with e | e <;> (rw [e]; decide +kernel)), if_pos e] at hp
      rw [List.mem_singleton.mp hp]
      exact w2
  | h, .tup [], w, _, _ => w.elim
  | h, .tup (.str _ :: _ :: _ :: _ :: _), w, _, _ => w.elim
  | h, .tup [.non], w, _, _ => w.elim
  | h, .tup [.bl _], w, _, _ => w.elim
  | h, .tup [.int _], w, _, _ => w.elim
  | h, .tup [.tup _], w, _, _ => w.elim
  | h, .tup [.lst _], w, _, _ => w.elim
  | h, .tup [.dct], w, _, _ => w.elim
  | h, .tup (.non :: _ :: _), w, _, hp => nomatch hp
  | h, .tup (.bl _ :: _ :: _), w, _, hp => nomatch hp
  | h, .tup (.int _ :: _ :: _), w, _, hp => nomatch hp
  | h, .tup (.tup _ :: _ :: _), w, _, hp => nomatch hp
  | h, .tup (.lst _ :: _ :: _), w, _, hp => nomatch hp
  | h, .tup (.dct :: _ :: _), w, _, hp => nomatch hp
  | h, .non, w, _, _ => w.elim
  | h, .bl _, w, _, _ => w.elim
  | h, .int _, w, _, _ => w.elim
  | h, .str _, w, _, _ => w.elim
  | h, .lst _, w, _, _ => w.elim
  | h, .dct, w, _, _ => w.elim
theorem cut2 (x y : V) (xs : List V) : ¬ HT.sIx (x :: y :: xs).length 0 (some 2) = 0 ∧ cutV (x :: y :: xs) (some 2) none = xs := by
  have e : HT.sIx (x :: y :: xs).length 0 (some 2) = 2 := by
    have q := HT.sIx_nat (x :: y :: xs).length 0 2
    rw [List.length_cons, List.length_cons, Nat.min_eq_left (by omega)] at q
    exact q
  refine ⟨by rw [e]; decide, ?_⟩
  unfold cutV
  rw [e, HT.sIx_none, List.length_cons, List.length_cons, show xs.length + 1 + 1 - 2 = xs.length by omega]
  show xs.take xs.length = xs
  rw [List.take_length]
/-- what inner_of tells -/
def spInn (h : Nat) : Sp := fun vs H Q _ => ∃ (v : V) (d : D), vs = [v] ∧ DS [] H v d ∧ Wf (h + 1) d ∧ ∀ (q : Addr) (us : List V) (H' : Hp), Same H H' → H' q = some (.tup us) → DSL [] H' us (innD d) → Q (.ref q) H'
def spSg (h : Nat) : Sp := fun vs H Q _ => ∃ (v : V) (d : D), vs = [v] ∧ DS [] H v d ∧ Wf h d ∧ ∀ H', Same H H' → Q (.int (sg h d : Nat)) H'
def spSy (C Tb Tw : Addr) (h : Nat) : Sp := fun vs H Q _ => ∃ (M : List Addr) (g : Addr) (v : V) (d : D) (G : Gr), vs = [.ref g, v] ∧ (Tb ∈ M ∧ Tw ∈ M ∧ Tb ≠ Tw) ∧ GrAt M C H g G ∧ DS M H v d ∧ dh h d ∧ h ≤ 200 ∧ TabG H Tb ∧ TabG H Tw ∧ ∀ H', Kp [Tb, Tw] H H' → TabG H' Tb → TabG H' Tw → Q (.bl (isD G h d [])) H'
def spBo (C Tb Tw : Addr) (h : Nat) : Sp := fun vs H Q _ => ∃ (M : List Addr) (g : Addr) (u v : V) (e d : D) (G : Gr), vs = [.ref g, u, v] ∧ (Tb ∈ M ∧ Tw ∈ M ∧ Tb ≠ Tw) ∧ GrAt M C H g G ∧ DS M H u e ∧ DS M H v d ∧ dh h d ∧ h ≤ 200 ∧ TabG H Tb ∧ TabG H Tw ∧ ∀ H', Kp [Tb, Tw] H H' → TabG H' Tb → TabG H' Tw → Q (.bl (kindD G e && isD G h d [strD e])) H'
abbrev sIn : Stmt := top 12
theorem scIn : FnScope ["thing"] ["thing"] (defScope sIn) := ⟨rfl, rfl, rfl, by decide +kernel, rfl, by decide +kernel, by decide +kernel⟩
abbrev sSg : Stmt := top 13
theorem scSg : FnScope ["thing", "many", "inner"] ["thing"] (defScope sSg) := ⟨rfl, rfl, rfl, by decide +kernel, rfl, by decide +kernel, by decide +kernel⟩
theorem scSy : FnScope ["ground", "thing"] ["ground", "thing"] (defScope (top 19)) := ⟨rfl, rfl, rfl, by decide +kernel, rfl, by decide +kernel, by decide +kernel⟩
theorem scBo : FnScope ["ground", "kind", "thing"] ["ground", "kind", "thing"] (defScope (top 20)) := ⟨rfl, rfl, rfl, by decide +kernel, rfl, by decide +kernel, by decide +kernel⟩
theorem inV3 (wd : Str) : inV (.str wd) [.str "name", .str "bound", .str "no"] = decide (wd = "name" ∨ wd = "bound" ∨ wd = "no") := by
  unfold inV
  simp only [List.any_cons, List.any_nil, Bool.or_false]
  show ((Str.ofString "name" == wd) || ((Str.ofString "bound" == wd) || (Str.ofString "no" == wd))) = _
  by_cases a1 : wd = "name"
  · rw [a1]
    decide +kernel
  by_cases a2 : wd = "bound"
  · rw [a2]
    decide +kernel
  by_cases a3 : wd = "no"
  · rw [a3]
    decide +kernel
  have b1 : ((Str.ofString "name") == wd) = false := by simpa using fun e => a1 e.symm
  have b2 : ((Str.ofString "bound") == wd) = false := by simpa using fun e => a2 e.symm
  have b3 : ((Str.ofString "no") == wd) = false := by simpa using fun e => a3 e.symm
  rw [b1, b2, b3, decide_eq_false (by simp [a1, a2, a3])]
  rfl
theorem inV2 (wd : Str) : inV (.str wd) bindsV = decide (wd = "all" ∨ wd = "some") := by
  unfold inV bindsV
  simp only [List.any_cons, List.any_nil, Bool.or_false]
  show ((Str.ofString "all" == wd) || (Str.ofString "some" == wd)) = _
  by_cases a1 : wd = "all"
  · rw [a1]
    decide +kernel
  by_cases a2 : wd = "some"
  · rw [a2]
    decide +kernel
  have b1 : ((Str.ofString "all") == wd) = false := by simpa using fun e => a1 e.symm
  have b2 : ((Str.ofString "some") == wd) = false := by simpa using fun e => a2 e.symm
  rw [b1, b2, decide_eq_false (by simp [a1, a2])]
  rfl
section
variable {P : Program} {w : World} {K : PySem.W.Frag} {mg : Str → Option Value} {base : Heap} {f fi fw c C Tb Tw : Addr} {fd fdi fdw : FuncData}
theorem ok_inn (F : Fun K "inner_of" "inner_of" sIn f fd) (h : Nat) : FnOk P w K mg base CX0 1 f fd ["thing"] (spInn h) := by
  refine F.ok scIn (fun vs H Q E h => ?_) (fun cdv A0 outer s H vs Q E hr hq => ?_)
  · obtain ⟨v, d, rfl, _⟩ := h
    rfl
  obtain ⟨v, d, rfl, hd, hw, kq⟩ := hq
  refine ⟨_, /-TI-/(pss_cons (ps_if (pt_cmpR op_in_seq (pe_ix ix_tup (pv 0) pe_int (fun _ _ => rfl)) (pe_tup (pa_cons pe_str (pa_cons pe_str (pa_cons pe_str pa_nil)))) (by rfl)) (pss_one
        (ps_ret (pe_tup pa_nil))) pss_nil)
      (pss_cons (ps_if (pt_cmpR op_eq (pe_ix ix_tup (pv 0) pe_int (fun _ _ => rfl)) pe_str (nomark _)) (pss_one
        (ps_ret (pe_ix ix_tup (pv 0) pe_int (fun _ _ => rfl)))) pss_nil)
      (pss_cons (ps_if (pt_cmpR op_in_seq (pe_ix ix_tup (pv 0) pe_int (fun _ _ => rfl)) (pe_tup (pa_cons pe_str (pa_cons pe_str pa_nil))) (by rfl)) (pss_one
        (ps_ret (pe_slice sl_tupA (pv 0) (po_some pe_int) po_none))) pss_nil)
      (pss_one
        (ps_ret (pe_slice sl_tupA (pv 0) (po_some pe_int) po_none))))))/-TIE-/, ?_⟩
  cases hd with
  | @tup va vs ds nv hv hl =>
    cases hl with
    | nil => exact hw.elim
    | @cons v0 vs d0 ds hD0 hl =>
    obtain ⟨wd, rfl⟩ : ∃ wd, d0 = .str wd := by
      cases d0 with
      | str wd => exact ⟨wd, rfl⟩
      | _ => 
        cases ds with
        | nil => exact hw.elim
        | cons a ds => 
          cases ds with
          | nil => exact hw.elim
          | cons b ds => 
            cases ds with
            | nil => exact hw.elim
            | cons _ _ => exact hw.elim
    obtain rfl : v0 = .str wd := by
      cases hD0
      rfl
    refine ⟨_, rfl, _, _, _, _, rfl, rfl, SqT.of hv, atI_nat (j := 0) rfl, by show 3 ≤ sizeLine; decide, fun q hq => ?_⟩
    have s1 : Same H (upd H q (.tup [.str "name", .str "bound", .str "no"])) := KD.Same.upd hq
    have hq1 : upd H q (.tup [.str "name", .str "bound", .str "no"]) q = some (.tup [.str "name", .str "bound", .str "no"]) := upd_same
    generalize upd H q (.tup [.str "name", .str "bound", .str "no"]) = H1 at s1 hq1 ⊢
    have hv1 := s1 _ _ hv
    have e3 := inV3 wd
    have em : innD (.tup (.str wd :: ds)) = [] → ∀ p, H1 p = none → Q (.ref p) (upd H1 p (.tup [])) := fun e p hp => kq p [] _ (s1.trans (KD.Same.upd hp)) upd_same (by rw [e]; exact .nil)
    by_cases w3 : wd = "name" ∨ wd = "bound" ∨ wd = "no"
    case pos =>
      refine ⟨q, _, rfl, .inr (SqT.of hq1), rfl, by decide, true, by rw [e3, decide_eq_true w3]; rfl, iteT ⟨Nat.zero_le _, em ?_⟩⟩
      match ds, hw with
      | [], _ => rfl
      | [a], hw =>
        rcases hw with ⟨e, _⟩ | ⟨e, _⟩
        · show (if wd = "bound" then [] else [a]) = []
          rw [if_pos e]
        · rw [e] at w3
          exact absurd w3 (by decide +kernel)
      | [a, b], hw =>
        show (if wd = "name" then [] else _) = []
        rw [if_pos ?_]
        rcases hw with ⟨e, _⟩ | ⟨e, _⟩ | ⟨e, _⟩ | ⟨e, _⟩
        · exact e
        · rw [e] at w3
          exact absurd w3 (by decide +kernel)
        · rcases e with e | e | e | e <;> (rw [e] at w3; exact absurd w3 (by decide +kernel))
        · rcases e with e | e <;> (rw [e] at w3; exact absurd w3 (by decide +kernel))
      | _ :: _ :: _ :: _, hw => exact hw.elim
    refine ⟨q, _, rfl, .inr (SqT.of hq1), rfl, by decide, false, by rw [e3, decide_eq_false w3]; rfl, iteF ?_⟩
    have kM : ∀ {H2 : Hp}, Same H H2 → Kp [] H H2 := fun s => Kp.same s
    cases hl with
    | nil => exact absurd (Or.inr (Or.inr hw)) w3
    | @cons v1 vs d1 ds hD1 hl =>
    cases hl with
    | nil =>
      rcases hw with ⟨e, _⟩ | ⟨e, _⟩
      · exact absurd (Or.inr (Or.inl e)) w3
      have ei : innD (.tup [.str wd, d1]) = [d1] := by
        show (if wd = "bound" then [] else [d1]) = _
        rw [if_neg (by rw [e]; decide +kernel)]
      refine ⟨_, rfl, _, _, _, _, rfl, rfl, SqT.of hv1, atI_nat (j := 0) rfl, rfl, false, congrArg V.bl (dF (by rw [e]; decide +kernel)), iteF ?_⟩
      refine ⟨_, rfl, _, _, _, _, rfl, rfl, SqT.of hv1, atI_nat (j := 0) rfl, by show 2 ≤ sizeLine; decide, fun q2 hq2 => ?_⟩
      have s2 := s1.trans (KD.Same.upd (o := .tup bindsV) hq2)
      refine ⟨q2, bindsV, rfl, .inr (SqT.of upd_same), rfl, by decide, false, by rw [inV2, decide_eq_false (by rw [e]; decide +kernel)]; rfl, iteF ?_⟩
      have hv2 := s2 _ _ hv
      refine ⟨_, rfl, 1, rfl, _, _, rfl, SqT.of hv2, fun z => absurd z.1 (cut1 _ _).1, fun _ p3 hp3 => ?_⟩
      rw [(cut1 _ _).2]
      refine kq p3 [v1] _ (s2.trans (KD.Same.upd hp3)) upd_same ?_
      rw [ei]
      exact .cons (hD1.mono (kM (s2.trans (KD.Same.upd hp3)))) .nil
    | @cons v2 vs d2 ds hD2 hl =>
    cases hl with
    | cons _ _ => exact hw.elim
    | nil =>
      have nn : wd ≠ "name" := fun e => w3 (.inl e)
      by_cases wm : wd = "made"
      case pos =>
        refine ⟨_, rfl, _, _, _, _, rfl, rfl, SqT.of hv1, atI_nat (j := 0) rfl, rfl, true, congrArg V.bl (dT wm), iteT ?_⟩
        refine ⟨_, rfl, _, _, _, _, rfl, rfl, SqT.of hv1, atI_nat (j := 2) rfl, ?_⟩
        obtain ⟨ps, rfl⟩ : ∃ ps, d2 = .tup ps := by
          rcases hw with ⟨e, _⟩ | ⟨_, _, ps, e, _⟩ | ⟨e, _⟩ | ⟨e, _⟩
          · exact absurd e nn
          · exact ⟨ps, e⟩
          · rw [wm] at e
            exact absurd e (by decide +kernel)
          · rw [wm] at e
            exact absurd e (by decide +kernel)
        have ei : innD (.tup [.str wd, d1, .tup ps]) = ps := by
          show (if wd = "name" then [] else if wd = "made" then ps else _) = _
          rw [if_neg nn, if_pos wm]
        cases hD2 with
        | @tup ua us _ nu hu hul =>
          refine kq ua us _ s1 (s1 _ _ hu) ?_
          rw [ei]
          exact hul.mono (kM s1)
      refine ⟨_, rfl, _, _, _, _, rfl, rfl, SqT.of hv1, atI_nat (j := 0) rfl, rfl, false, congrArg V.bl (dF wm), iteF ?_⟩
      refine ⟨_, rfl, _, _, _, _, rfl, rfl, SqT.of hv1, atI_nat (j := 0) rfl, by show 2 ≤ sizeLine; decide, fun q2 hq2 => ?_⟩
      have s2 := s1.trans (KD.Same.upd (o := .tup bindsV) hq2)
      have hb2 : upd H1 q2 (.tup bindsV) q2 = some (.tup bindsV) := upd_same
      have hv2 := s2 _ _ hv
      by_cases wa : wd = "all" ∨ wd = "some"
      case pos =>
        have ei : innD (.tup [.str wd, d1, d2]) = [d2] := by
          show (if wd = "name" then [] else if wd = "made" then _ else if wd = "all" ∨ wd = "some" then [d2] else _) = _
          rw [if_neg nn, if_neg wm, if_pos wa]
        refine ⟨q2, bindsV, rfl, .inr (SqT.of hb2), rfl, by decide, true, by rw [inV2, decide_eq_true wa]; rfl, iteT ?_⟩
        refine ⟨_, rfl, 2, rfl, _, _, rfl, SqT.of hv2, fun z => absurd z.1 (cut2 _ _ _).1, fun _ p3 hp3 => ?_⟩
        rw [(cut2 _ _ _).2]
        refine kq p3 [v2] _ (s2.trans (KD.Same.upd hp3)) upd_same ?_
        rw [ei]
        exact .cons (hD2.mono (kM (s2.trans (KD.Same.upd hp3)))) .nil
      have ei : innD (.tup [.str wd, d1, d2]) = [d1, d2] := by
        show (if wd = "name" then [] else if wd = "made" then _ else if wd = "all" ∨ wd = "some" then [d2] else [d1, d2]) = _
        rw [if_neg nn, if_neg wm, if_neg wa]
      refine ⟨q2, bindsV, rfl, .inr (SqT.of hb2), rfl, by decide, false, by rw [inV2, decide_eq_false wa]; rfl, iteF ?_⟩
      refine ⟨_, rfl, 1, rfl, _, _, rfl, SqT.of hv2, fun z => absurd z.1 (cut1 _ _).1, fun _ p3 hp3 => ?_⟩
      rw [(cut1 _ _).2]
      refine kq p3 [v1, v2] _ (s2.trans (KD.Same.upd hp3)) upd_same ?_
      rw [ei]
      exact .cons (hD1.mono (kM (s2.trans (KD.Same.upd hp3)))) (.cons (hD2.mono (kM (s2.trans (KD.Same.upd hp3)))) .nil)
  | _ => exact hw.elim
theorem ok_sg (F : Fun K "signs_of" "signs_of" sSg f fd) (b : Binds K fd ["thing"] []) (m : mg "signs_of" = some (.ref f)) (Fi : Fun K "inner_of" "inner_of" sIn fi fdi) (bi : Binds K fdi ["thing"] []) (mi : mg "inner_of" = some (.ref fi)) :
    ∀ h, FnOk P w K mg base CX0 (2 + h) f fd ["thing"] (spSg h)
  | 0 => by
    refine F.ok scSg (fun vs H Q E h => ?_) (fun cdv A0 outer s H vs Q E hr h => ?_)
    · obtain ⟨v, d, rfl, _⟩ := h
      rfl
    · obtain ⟨v, d, rfl, _, z, _⟩ := h
      exact z.elim
  | h + 1 => by
    have IH := ok_sg F b m Fi bi mi h
    rw [show 2 + (h + 1) = (2 + h) + 1 by omega]
    refine F.ok scSg (fun vs H Q E h => ?_) (fun cdv A0 outer s H vs Q E hr hq => ?_)
    · obtain ⟨v, d, rfl, _⟩ := h
      rfl
    obtain ⟨v, d, rfl, hd, hw, kq⟩ := hq
    refine ⟨_, /-TS-/(pss_cons (ps_set (i := 1) scSg.nd rfl (Or.inl rfl) pe_int)
      (pss_cons (ps_for PassesOwn.never rfl (pi_tup (pe_call (ok_inn Fi h) (hr.mono (by omega)) rfl mi Fi.kp bi .nil pass0 (pa_cons (pv 0) pa_nil))) (pg_name (i := 2) scSg.nd rfl (Or.inl rfl)) (pss_one
        (ps_aug (i := 1) scSg.nd rfl (Or.inl rfl) (pe_call IH (hr.mono (by omega)) rfl m F.kp b .nil pass0 (pa_cons (pv 2) pa_nil)) ip_add)))
      (pss_one
        (ps_ret (pv 1)))))/-TSE-/, ?_⟩
    have hwi : ∀ p ∈ innD d, Wf h p := wf_in hw
    refine ⟨_, rfl, v, d, rfl, hd, hw, fun q us H1 s1 hq hl => ?_⟩
    have lus := hl.length
    refine ⟨q, rfl, ⟨_, SqT.of hq⟩, for_tup (xs := us) (fun i σ' H' => ∃ o2, σ' = [some v, some (V.int ((1 + (((innD d).take i).map (sg h)).sum : Nat) : Int)), o2] ∧ Same H1 H') ⟨_, rfl, fun _ _ e => e⟩ (fun i σ' H' _ q' => ?_) (fun i x σ' H2 hx q' => ?_) (fun σ' H2 q' => ?_)⟩
    · obtain ⟨_, _, s⟩ := q'
      exact SqT.of (s _ _ hq)
    · obtain ⟨o2, rfl, s2⟩ := q'
      obtain ⟨p, hp, hP⟩ := hl.get hx
      refine ⟨_, rfl, _, rfl, x, p, rfl, hP.mono (Kp.same s2), hwi p (List.mem_of_getElem? hp), fun H3 s3 => ?_⟩
      refine ⟨_, _, rfl, rfl, some x, ?_, s2.trans s3⟩
      have tk : (innD d).take (i + 1) = (innD d).take i ++ [p] := by
        rw [List.take_succ, hp]
        rfl
      show [some v, some (V.int (((1 + (((innD d).take i).map (sg h)).sum : Nat) : Int) + ((sg h p : Nat) : Int))), some x] = _
      rw [tk, List.map_append, List.sum_append, List.map_singleton, List.sum_singleton]
      congr 3
      congr 1
      omega
    · obtain ⟨o2, rfl, s2⟩ := q'
      rw [lus, List.take_length]
      exact ⟨_, rfl, kq H2 (s1.trans s2)⟩
theorem ok_sy (F : Fun K "is_saying" "is_saying" (top 19) f fd) (Fw : FunT K "_is_within" "_is_within" sWi fw fdw c) (bw : Binds K fdw pWi []) (mw : mg "_is_within" = some (.ref fw)) (WI : ∀ h, FnOk P w K mg base CX0 (8 + 3 * h) fw fdw pWi (spWi C Tb Tw h)) (h : Nat) : FnOk P w K mg base CX0 (9 + 3 * h) f fd ["ground", "thing"] (spSy C Tb Tw h) := by
  rw [show 9 + 3 * h = (8 + 3 * h) + 1 by omega]
  refine F.ok scSy (fun vs H Q E h => ?_) (fun cdv A0 outer s H vs Q E hr hq => ?_)
  · obtain ⟨M, g, v, d, G, rfl, _⟩ := h
    rfl
  obtain ⟨M, g, v, d, G, rfl, ⟨hTM, hWM, hTW⟩, hG, hd, hh, h2, hT, hW, kq⟩ := hq
  refine ⟨_, /-TY-/(pss_one
        (ps_ret (pe_call (WI h) (hr.mono (by omega)) rfl mw Fw.kp bw .nil pass0 (pa_cons (pv 0) (pa_cons (pv 1) (pa_cons (pe_tup pa_nil) pa_nil))))))/-TYE-/, ?_⟩
  have sub : ∀ x ∈ [Tb, Tw], x ∈ M := fun x hx => by
    simp at hx
    rcases hx with rfl | rfl
    · exact hTM
    · exact hWM
  refine ⟨_, rfl, _, rfl, Nat.zero_le _, fun q hq => ?_⟩
  have k0 : Kp [Tb, Tw] H (upd H q (.tup [])) := Kp.new hq
  exact ⟨[Tb, Tw], g, q, v, d, [], G, rfl, ⟨by simp, by simp, hTW⟩, (hG.drop sub).mono k0, (hd.drop sub).mono k0, hh, by simp; omega, ⟨by simp [tab_ne hT hq, tab_ne hW hq], upd_same⟩, tab_new hT hq, tab_new hW hq, fun H' k t w => kq H' (k0.trans k) t w⟩
theorem ok_bo (F : Fun K "is_body" "is_body" (top 20) f fd) (Fw : FunT K "_is_within" "_is_within" sWi fw fdw c) (bw : Binds K fdw pWi []) (mw : mg "_is_within" = some (.ref fw)) (WI : ∀ h, FnOk P w K mg base CX0 (8 + 3 * h) fw fdw pWi (spWi C Tb Tw h)) (T : GN.TxtG K mg C) (Ms : MsQ P w K mg base C) (h : Nat) : FnOk P w K mg base CX0 (9 + 3 * h) f fd ["ground", "kind", "thing"] (spBo C Tb Tw h) := by
  rw [show 9 + 3 * h = (8 + 3 * h) + 1 by omega]
  refine F.ok scBo (fun vs H Q E h => ?_) (fun cdv A0 outer s H vs Q E hr hq => ?_)
  · obtain ⟨M, g, u, v, e, d, G, rfl, _⟩ := h
    rfl
  obtain ⟨M, g, u, v, e, d, G, rfl, ⟨hTM, hWM, hTW⟩, hG, he, hd, hh, h2, hT, hW, kq⟩ := hq
  refine ⟨_, /-TB-/(pss_one
        (ps_ret (pe_and (pe_meth (pv 0) T.cl Ms.mK Ms.kind (hr.mono (by omega)) Ms.bk .nil pass0 (pa_cons (pv 1) pa_nil)) (pe_one (pe_call (WI h) (hr.mono (by omega)) rfl mw Fw.kp bw .nil pass0 (pa_cons (pv 0) (pa_cons (pv 2) (pa_cons (pe_tup (pa_cons (pv 1) pa_nil)) pa_nil))))))))/-TBE-/, ?_⟩
  have sub : ∀ x ∈ [Tb, Tw], x ∈ M := fun x hx => by
    simp at hx
    rcases hx with rfl | rfl
    · exact hTM
    · exact hWM
  obtain ⟨dx, mk, tk, gv', fa, rt, h0⟩ := hG.obj
  refine ⟨_, rfl, g, dx, _, rfl, h0, GN.gf_no (by decide +kernel), _, rfl, ?_⟩
  refine goal2 ?_
  refine iskind_use hG he ?_
  refine ⟨_, rfl, ?_⟩
  cases hk : kindD G e with
  | false =>
    refine iteF ?_
    have z := kq H (Kp.refl _) hT hW
    rw [hk] at z
    exact z
  | true =>
    refine iteT ?_
    obtain ⟨kd, rfl⟩ : ∃ kd, e = .str kd := by
      cases e with
      | str kd => exact ⟨kd, rfl⟩
      | _ => exact nomatch hk
    obtain rfl : u = .str kd := by
      cases he
      rfl
    refine ⟨_, rfl, _, rfl, _, rfl, by show 1 ≤ sizeLine; decide, fun q hq => ?_⟩
    have k0 : Kp [Tb, Tw] H (upd H q (.tup [.str kd])) := Kp.new hq
    refine ⟨[Tb, Tw], g, q, v, d, [kd], G, rfl, ⟨by simp, by simp, hTW⟩, (hG.drop sub).mono k0, (hd.drop sub).mono k0, hh, by simp; omega, ⟨by simp [tab_ne hT hq, tab_ne hW hq], upd_same⟩, tab_new hT hq, tab_new hW hq, fun H' k t w => ?_⟩
    have z := kq H' (k0.trans k) t w
    rw [hk, Bool.true_and] at z
    exact z
end
end Q3

/-! GE1: dict(enumerate(xs)). -/
namespace Q3
open PySem PySem.Spec PyProof.Rows L2
def enumK : Nat → List V → List (L2.Key × V)
  | _, [] => []
  | n, x :: xs => (.inl (n : Int), x) :: enumK (n + 1) xs
def enumR : Nat → List Value → List (L2.Key × Value)
  | _, [] => []
  | n, x :: xs => (.inl (n : Int), x) :: enumR (n + 1) xs
theorem enumK_len : ∀ (n : Nat) (xs : List V), (enumK n xs).length = xs.length
  | _, [] => rfl
  | n, _ :: xs => congrArg (· + 1) (enumK_len (n + 1) xs)
theorem enumR_len : ∀ (n : Nat) (xs : List Value), (enumR n xs).length = xs.length
  | _, [] => rfl
  | n, _ :: xs => congrArg (· + 1) (enumR_len (n + 1) xs)
theorem enumR_get : ∀ (n : Nat) (xs : List Value) (i : Nat) (v : Value), xs[i]? = some v → (enumR n xs)[i]? = some (.inl ((n + i : Nat) : Int), v)
  | n, x :: xs, 0, v, h => by
    show some (Sum.inl (n : Int), x) = _
    rw [Option.some.inj (show some x = some v from h)]
    rfl
  | n, x :: xs, i + 1, v, h => by
    have := enumR_get (n + 1) xs i v h
    show (enumR (n + 1) xs)[i]? = _
    rw [this, show n + 1 + i = n + (i + 1) by omega]
theorem enum_kv : ∀ (n : Nat) {xs : List V} {us : List Value}, Vals xs us → KV (enumK n xs) (enumR n us)
  | _, _, _, .nil => .nil
  | n, _, _, .cons r t => .cons ⟨rfl, r⟩ (enum_kv (n + 1) t)
theorem enum_val : ∀ (n : Nat) (xs : List V) (i : Int), valV (enumK n xs) (.inl i) = if (n : Int) ≤ i then xs[(i - n).toNat]? else none
  | n, [], i => by
    show none = _
    split <;> simp
  | n, x :: xs, i => by
    have ih := enum_val (n + 1) xs i
    by_cases e : (n : Int) = i
    · have : valV (enumK n (x :: xs)) (.inl i) = some x := by
        show valV ((.inl (n : Int), x) :: enumK (n + 1) xs) (.inl i) = some x
        exact valV_pos (congrArg Sum.inl e)
      rw [this, if_pos (by omega), show (i - n).toNat = 0 by omega]
      rfl
    · have : valV (enumK n (x :: xs)) (.inl i) = valV (enumK (n + 1) xs) (.inl i) := by
        show valV ((.inl (n : Int), x) :: enumK (n + 1) xs) (.inl i) = _
        exact valV_neg (fun z => e (by injection z))
      rw [this, ih]
      by_cases l : (n : Int) ≤ i
      · rw [if_pos l, if_pos (by omega), show (i - n).toNat = (i - ((n + 1 : Nat) : Int)).toNat + 1 by omega]
        rfl
      · rw [if_neg l, if_neg (by omega)]
theorem enum_merge : ∀ (xs : List V) (n : Nat) (acc : List (L2.Key × V)), (∀ p ∈ acc, ∃ i : Int, p.1 = .inl i ∧ i < n) → mergeK acc (enumK n xs) = acc ++ enumK n xs
  | [], _, acc, _ => by
    show acc = acc ++ []
    rw [List.append_nil]
  | x :: xs, n, acc, h => by
    have nw : valV acc (.inl (n : Int)) = none := by
      cases e : valV acc (.inl (n : Int)) with
      | none => rfl
      | some v =>
        unfold valV at e
        cases e2 : acc.find? fun kv => decide (kv.1 = Sum.inl (n : Int)) with
        | none => rw [e2] at e; exact nomatch e
        | some p =>
          obtain ⟨i, hi, hl⟩ := h p (List.mem_of_find?_eq_some e2)
          have e3' : decide (p.1 = Sum.inl (n : Int)) = true := List.find?_some (p := fun kv : L2.Key × V => decide (kv.1 = Sum.inl (n : Int))) e2
          have e3 := of_decide_eq_true e3'
          rw [hi] at e3
          injection e3 with e3
          omega
    show mergeK (putK acc (.inl (n : Int)) x) (enumK (n + 1) xs) = _
    have pk : putK acc (.inl (n : Int)) x = acc ++ [(.inl (n : Int), x)] := by
      unfold putK
      rw [valV_any, nw]
      rfl
    rw [pk, enum_merge xs (n + 1) _ ?_, List.append_assoc]
    · rfl
    · intro p hp
      rcases List.mem_append.mp hp with q | q
      · obtain ⟨i, hi, hl⟩ := h p q
        exact ⟨i, hi, by omega⟩
      · rw [List.mem_singleton.mp q]
        exact ⟨n, rfl, by omega⟩
def tDEnum (K : PySem.W.Frag) (ta : TE) : TE := fun σ H Q => ta σ H fun x H1 => ∃ (l : Addr) (xs : List V), x = .ref l ∧ SqL K H1 l xs ∧ ∀ p, H1 p = none → Q (.ref p) (upd H1 p (.dK (enumK 0 xs)))
theorem pe_dEnum {X : Cx} {a : Expr} {ta : TE} {p p2 q pos : Pos} (hg : Gl X "dict") (hm : X.mg "dict" = none) (hg2 : Gl X "enumerate") (hm2 : X.mg "enumerate" = none) (ha : PE X a ta) (hc : X.calm = true := by rfl)
    (na : starEach [a] X.env = (false, eval a X.env) :: starEach [] X.env := by rfl) : PE X (.Call (.Name "dict" p) [.Call (.Name "enumerate" p2) [a] [] q] [] pos) (tDEnum X.K ta) := by
  refine ⟨fun pins s σ H Q I h => ?_⟩
  refine Call_ (ld_blt I hg hm boot_dict ?_)
  refine PyProof.Rows.callWith_type1 (PyProof.Rows.args_cons ?_ rfl) rfl rfl
  refine Call_ (ld_blt I hg2 hm2 boot_enumerate ?_)
  refine PyProof.Rows.callWith_type1 (PyProof.Rows.args_cons (thn (ha.run pins s σ H _ I h) fun v s1 ⟨x, H1, I1, r1, q1⟩ => PyProof.Rows.args_nil ?_) na) na rfl
  obtain ⟨l, xs, rfl, hq, q1⟩ := q1
  cases r1
  obtain ⟨its, r, pl, hz⟩ := I1.list hq
  refine call_enumerate_list pl.isList fun h' hE hI hsz hk => ?_
  refine PyProof.Rows.args_nil ?_
  have hl1 : h'.IsList l its.toArray := pl.isList.at fun o e => hk _ o e
  have llt : l < s1.heap.objs.size := by
    obtain ⟨o, e, _⟩ := pl.isList
    exact Heap.lt_size e
  have hle : its.toArray.size ≤ sizeLine := by
    rw [List.size_toArray, ← r.length]
    exact hz
  refine PySem.call_dict_pairs (knd := mixKind X.prog X.w) (kvs := enumR 0 its) (PySem.PairArg.enumerate (prog := X.prog) (w := X.w) (s1.heap.objs.size + 1) s1.heap.objs.size l (Nat.succ_ne_self _) (Nat.ne_of_lt (Nat.lt_succ_of_lt llt)) (Nat.ne_of_lt llt) its.toArray) (I1.ok.hd hc) ⟨⟨_, hE⟩, hI, hl1⟩ ⟨by rw [enumR_len, List.size_toArray], fun i key v hr => ?_⟩ hle fun h'' tk hD hk2 => ?_
  · obtain ⟨⟨t, rfl⟩, hv⟩ := hr
    refine ⟨.inl ((0 + i : Nat) : Int), enumR_get 0 its i v (by simpa using hv), ?_⟩
    have : RelV (kV (.inl ((0 + i : Nat) : Int))) (.int (i : Int) t) := ⟨t, by rw [Nat.zero_add]⟩
    exact kV_is this
  · have hp : s1.heap.objs.size ≤ h'.objs.size := by omega
    have hm' : (({ s1 with heap := h' } : Shared).heap.objs.size == sysModules) = false := beq_eq_false_iff_ne.mpr (Nat.ne_of_gt (Nat.lt_of_lt_of_le I1.big hp))
    have hme : mergeK [] (enumK 0 xs) = enumK 0 xs := by rw [enum_merge xs 0 [] (fun p hp => nomatch hp)]; rfl
    have kv : KV (enumK 0 xs) (merged [] (enumR 0 its)) := by
      rw [← hme]
      exact KV.merge (enum_kv 0 r) .nil
    refine ⟨.ref h'.objs.size, upd H1 h'.objs.size (.dK (enumK 0 xs)), I1.laid (t' := tk) (fun b u e => ?_) hp
      (show ObjOk X.prog X.w _ _ _ (.dK (enumK 0 xs)) from ⟨by rw [enumK_len]; exact hz, hm', merged [] (enumR 0 its), kv, hD⟩), rfl, q1 _ (I1.hok.fresh hp)⟩
    have lb := Heap.lt_size e
    exact hk2 b u (by simp [Nat.ne_of_lt lb, Nat.ne_of_lt (Nat.lt_succ_of_lt lb)]) (hk b u e)
end Q3

/-! GE2: t == (), t a tuple. -/
namespace Q3
open PySem PySem.Spec PyProof.Rows L2
def rEqNil (K : PySem.W.Frag) : R2 := fun x y H Q => ∃ (a b : Addr) (xs : List V), x = .ref a ∧ y = .ref b ∧ SqT K H a xs ∧ SqT K H b [] ∧ Q (.bl xs.isEmpty) H
theorem op_eqNil {X : Cx} (hu : X.A.units < cLine) : OpR X (compareOp .Eq) (rEqNil X.K) := by
  intro pins s σ H x y v u Q I rx ry h
  obtain ⟨a, b, xs, rfl, rfl, ha, hb, q⟩ := h
  cases rx
  cases ry
  obtain ⟨its, r, p, _⟩ := I.tuple ha
  obtain ⟨its2, r2, p2, _⟩ := I.tuple hb
  cases r2
  show wpAny _ _ (richCompare .Eq (.ref a) (.ref b)) _ _ _
  have p' : s.heap.IsTuple a its.toArray := let ⟨o, e, c, n, d⟩ := p; ⟨o, e, c, n, d⟩
  have p2' : s.heap.IsTuple b ([] : List Value).toArray := let ⟨o, e, c, n, d⟩ := p2; ⟨o, e, c, n, d⟩
  refine PySem.SeqAt.rcIn_tuples (e := fun _ => true) p' p2' hu (fun j h1 h2 => absurd h2 (by simp)) ?_
  have e : ((List.range (min its.toArray.size ([] : List Value).toArray.size)).all (fun _ => true) && its.toArray.size == ([] : List Value).toArray.size) = xs.isEmpty := by
    have := r.length
    simp
    cases xs with
    | nil => cases r; rfl
    | cons _ _ => cases r; simp
  rw [e]
  exact ⟨.bl _, H, I, rfl, q⟩
end Q3

/-! LW1: _law_is_name, _law_kind_of. -/
namespace Q3
open PySem PySem.Spec PyProof.Rows L2 GenW GxR NdefX GX
open KD (top FAt Each RowG)
open KM (G)
theorem hu0 {A : Around} {k : Nat} (hr : Room k A) : A.units < cLine := Nat.lt_of_le_of_lt (Nat.le_add_right _ 64) hr.units
/-- the ground of these kinds and rows -/
def grOf (kn : List Str) (rows : List KD.Row) : Gr := ⟨kn, fun f => (rows.find? fun r => decide (r.1 = f)).map fun r => r.2⟩
theorem grOf_some {kn : List Str} {rows : List KD.Row} {f : Str} {t : List Str} {k : Str} (h : (grOf kn rows).tg f = some (t, k)) : ((f, t, k) : KD.Row) ∈ rows := by
  have h : (rows.find? fun r => decide (r.1 = f)).map (fun r => r.2) = some (t, k) := h
  cases e : rows.find? fun r => decide (r.1 = f) with
  | none => rw [e] at h; exact nomatch h
  | some r =>
    rw [e] at h
    have e1 : decide (r.1 = f) = true := List.find?_some (p := fun r : KD.Row => decide (r.1 = f)) e
    have e2 := of_decide_eq_true e1
    have e3 : r.2 = (t, k) := Option.some.inj h
    have : r = (f, t, k) := by
      rw [← e2, ← e3]
    rw [← this]
    exact List.mem_of_find?_eq_some e
theorem grOf_none {kn : List Str} {rows : List KD.Row} {f : Str} (h : (grOf kn rows).tg f = none) : f ∉ rows.map (·.1) := by
  have h : (rows.find? fun r => decide (r.1 = f)).map (fun r => r.2) = none := h
  intro z
  obtain ⟨r, hr, e⟩ := List.mem_map.mp z
  cases e2 : rows.find? fun r => decide (r.1 = f) with
  | none =>
    have := List.find?_eq_none.mp e2 r hr
    exact this (decide_eq_true e)
  | some r => rw [e2] at h; exact nomatch h
/-- what the law holds of a ground: what makes, by name; the kinds -/
structure LwG (H : Hp) (d kl : Addr) (kn : List Str) (rows : List KD.Row) : Prop where
  d : ∃ od kvs, H d = some (.frz od (.dK kvs)) ∧ Each (FAt [] H) kvs rows
  nd : (rows.map (·.1)).Nodup
  k : H kl = some (.lst (kn.map V.str))
  g : ∀ x ∈ kn, G x
  r : ∀ r ∈ rows, RowG kn r
theorem LwG.same {H H' : Hp} {d kl : Addr} {kn : List Str} {rows : List KD.Row} (h : LwG H d kl kn rows) (s : Same H H') : LwG H' d kl kn rows := by
  obtain ⟨⟨od, kvs, h1, h2⟩, nd, hk, hg, hr⟩ := h
  exact ⟨⟨od, kvs, s _ _ h1, h2.imp fun q r f => f.mono (.same s)⟩, nd, s _ _ hk, hg, hr⟩
theorem kw_in {kn : List Str} {rows : List KD.Row} (hr : ∀ r ∈ rows, RowG kn r) : ∀ {h : Nat} {d : D} {as : List Str} {k : Str}, (∀ x ∈ as, x ∈ kn) → kw (grOf kn rows) h d as = some k → k ∈ kn
  | 0, d, as, k, _, e => by
    rw [show kw _ 0 d as = none from rfl] at e
    exact nomatch e
  | h + 1, d, as, k, ha, e => by
    by_cases hd : ∃ wd r, d = .tup (.str wd :: r) ∧ (r.length = 1 ∨ r.length = 2)
    · obtain ⟨wd, r, rfl, l⟩ := hd
      match r, l with
      | [a], _ =>
        rw [kw_2] at e
        by_cases w : wd = "bound"
        · rw [if_pos w] at e
          cases a with
          | int i =>
            have e : (if 0 ≤ i ∧ i < as.length then as[i.toNat]? else none) = some k := e
            split at e
            · exact ha k (List.mem_of_getElem? e)
            · exact nomatch e
          | _ => exact nomatch e
        · rw [if_neg w] at e
          exact nomatch e
      | [a, b], _ =>
        rw [kw_3] at e
        by_cases w : wd = "name"
        · rw [if_pos w, kn_eq] at e
          split at e
          · rename_i hn
            split at e
            · rename_i hk
              cases b with
              | str k' =>
                have hk : decide (k' ∈ kn) = true := hk
                rw [← Option.some.inj (show some k' = some k from e)]
                exact of_decide_eq_true hk
              | _ => exact nomatch hk
            · exact nomatch e
          · exact nomatch e
        · rw [if_neg w] at e
          by_cases w2 : wd = "made"
          · rw [if_pos w2] at e
            cases a with
            | str fn =>
              cases b with
              | tup ps =>
                have e' : (match (grOf kn rows).tg fn with | some (ts, gv) => if ps.map (fun p => kw (grOf kn rows) h p as) = ts.map some then some gv else none | none => none) = some k := e
                cases et : (grOf kn rows).tg fn with
                | none => rw [et] at e'; exact nomatch e'
                | some r =>
                  rw [et] at e'
                  obtain ⟨ts, gv⟩ := r
                  have e2 : (if ps.map (fun p => kw (grOf kn rows) h p as) = ts.map some then some gv else none) = some k := e'
                  split at e2
                  · rw [← Option.some.inj e2]
                    exact (hr _ (grOf_some et)).2.2.1
                  · exact nomatch e2
              | _ => exact nomatch e
            | _ => exact nomatch e
          · rw [if_neg w2] at e
            exact nomatch e
    · rw [kw_n _ h as (fun wd r z => ⟨fun l => hd ⟨wd, r, z, .inl l⟩, fun l => hd ⟨wd, r, z, .inr l⟩⟩)] at e
      exact nomatch e
/-- a list of kinds, some of them none -/
def oD : Option Str → PyData
  | some k => .str k
  | none => .none
theorem oV_dp {K : PySem.W.Frag} {H : Hp} : ∀ (ks : List (Option Str)), DpAll K H (ks.map oV) (ks.map oD)
  | [] => .nil
  | none :: ks => .cons .non (oV_dp ks)
  | some k :: ks => .cons (.str _) (oV_dp ks)
theorem can_o : ∀ {ks : List (Option Str)}, (∀ k, some k ∈ ks → G k) → PyData.canLayAll0 (ks.map oD) = true
  | [], _ => rfl
  | none :: ks, h => by
    simp only [List.map_cons, PyData.canLayAll0, Bool.and_eq_true]
    exact ⟨rfl, can_o fun k hk => h k (List.mem_cons_of_mem _ hk)⟩
  | some k :: ks, h => by
    simp only [List.map_cons, PyData.canLayAll0, Bool.and_eq_true]
    exact ⟨KD.G.strOk (h k List.mem_cons_self), can_o fun k hk => h k (List.mem_cons_of_mem _ hk)⟩
theorem dep_o : ∀ (ks : List (Option Str)), PyData.depthAll (ks.map oD) = 0
  | [] => by simp [PyData.depthAll]
  | none :: ks => by
    simp only [List.map_cons, PyData.depthAll, dep_o ks, oD, PyData.depth]
    rfl
  | some k :: ks => by
    simp only [List.map_cons, PyData.depthAll, dep_o ks, oD, PyData.depth]
    rfl
theorem shaped_o {ks : List (Option Str)} (h : ∀ k, some k ∈ ks → G k) : SeqAt.shaped (.list (ks.map oD)) = true := by
  unfold SeqAt.shaped
  have c : (PyData.list (ks.map oD)).canLay0 = true := by
    simp only [PyData.canLay0]
    exact can_o h
  rw [c, Bool.true_and]
  refine decide_eq_true ?_
  simp only [PyData.depth, dep_o]
  decide
theorem eqv_o : ∀ (ks ls : List (Option Str)), PyData.eqvAll (ks.map oD) (ls.map oD) = decide (ks = ls)
  | [], [] => by simp [PyData.eqvAll]
  | [], _ :: _ => by simp [PyData.eqvAll]
  | _ :: _, [] => by simp [PyData.eqvAll]
  | k :: ks, l :: ls => by
    have ih := eqv_o ks ls
    simp only [List.map_cons, PyData.eqvAll, ih]
    cases k with
    | none => cases l <;> simp [oD, PyData.eqv]
    | some k =>
      cases l with
      | none => simp [oD, PyData.eqv]
      | some l =>
        simp only [oD, PyData.eqv, List.cons.injEq, Option.some.injEq]
        by_cases e : k = l
        · simp [e]
        · simp [e]
def spNm : Sp := fun vs H Q _ => ∃ a : Str, vs = [.str a] ∧ a.length ≤ 1000 ∧ ∀ H', Same H H' → Q (.bl (GN.isNameB a)) H'
def spKo (h : Nat) : Sp := fun vs H Q _ => ∃ (d kl ar : Addr) (v : V) (t : D) (kn as : List Str) (rows : List KD.Row), vs = [.ref d, .ref kl, v, .ref ar] ∧ LwG H d kl kn rows ∧ DS [] H v t ∧ dh h t ∧ H ar = some (.lst (as.map V.str)) ∧ (∀ x ∈ as, x ∈ kn) ∧ ∀ H', Same H H' → Q (oV (kw (grOf kn rows) h t as)) H'
abbrev sNm : Stmt := top 54
abbrev nNm : List Str := ["_law_thing", "_law_letter"]
theorem scNm : FnScope nNm ["_law_thing"] (defScope sNm) := ⟨rfl, rfl, rfl, by decide +kernel, rfl, by decide +kernel, by decide +kernel⟩
abbrev sKo : Stmt := top 53
abbrev nKo : List Str := ["_law_makes_here", "_law_kinds_here", "_law_thing", "_law_around", "_law_part"]
abbrev pKo : List Str := ["_law_makes_here", "_law_kinds_here", "_law_thing", "_law_around"]
theorem scKo : FnScope nKo pKo (defScope sKo) := ⟨rfl, rfl, rfl, by decide +kernel, rfl, by decide +kernel, by decide +kernel⟩
section
variable {P : Program} {w : World} {K : PySem.W.Frag} {mg : Str → Option Value} {base : Heap} {f fn : Addr} {fd fdn : FuncData}
theorem ok_nm (F : Fun K "_law_is_name" "_law_is_name" sNm f fd) (X : TxQ mg) : FnOk P w K mg base CX0 1 f fd ["_law_thing"] spNm := by
  refine F.ok scNm (fun vs H Q E h => ?_) (fun cdv A0 outer s H vs Q E hr hq => ?_)
  · obtain ⟨a, rfl, _⟩ := h
    rfl
  obtain ⟨a, rfl, la, kq⟩ := hq
  refine ⟨_, /-TN-/(pss_cons (ps_if (PW.pt (pw_or (pt_cmpR op_in_seq (pv 0) (pe_lst (pa_cons pe_str (pa_cons pe_str (pa_cons pe_str (pa_cons pe_str (pa_cons pe_str (pa_cons pe_str (pa_cons pe_str pa_nil)))))))) (by rfl)) (pw_or (pt_cmpR op_lt (pe_callB call_len_str (by rfl) X.len PySem.boot_len (pa_cons (pv 0) pa_nil)) pe_int (nomark _)) (pw_or1 (pt_cmpR op_gt (pe_callB call_len_str (by rfl) X.len PySem.boot_len (pa_cons (pv 0) pa_nil)) pe_int (nomark _)))))) (pss_one
        (ps_ret pe_bl)) pss_nil)
      (pss_one
        (ps_ret (pe_callB (cr_all rfl) (by rfl) X.all GN.boot_all (pa_cons (pe_lc (own := [("_law_letter", 1)]) (g := gName 1) (tt := tYes) rfl scNm.nd (pi_str (pv 0)) (blkOk_by (N := nNm) (sc := defScope sNm) (by decide +kernel)) (fun _ _ _ _ _ => pg_name (i := 1) scNm.nd rfl (Or.inl rfl)) (fun _ _ _ _ _ => pts_nil) (fun _ _ _ _ _ => pe_cmpR op_in_sign (pv 1) pe_str (by rfl))) pa_nil)))))/-TNE-/, ?_⟩
  have hl : a.length ≤ sizeLine := Nat.le_trans la (by decide)
  refine ⟨_, rfl, by show 7 ≤ sizeLine; decide, fun q hq => ?_⟩
  have s1 : Same H (upd H q (.lst GN.wordsV)) := KD.Same.upd hq
  have hq1 : upd H q (.lst GN.wordsV) q = some (.lst GN.wordsV) := upd_same
  show rIn K false (.str a) (.ref q) (upd H q (.lst GN.wordsV)) _
  generalize upd H q (.lst GN.wordsV) = H1 at s1 hq1 ⊢
  cases hin : inV (.str a) GN.wordsV with
  | true =>
    refine ⟨q, _, rfl, .inl (SqL.of hq1), rfl, by decide, true, by rw [hin]; rfl, iteT (iteT ?_)⟩
    have z := kq H1 s1
    unfold GN.isNameB at z
    rw [hin] at z
    exact (show Q (V.bl false) H1 by simpa using z)
  | false =>
    refine ⟨q, _, rfl, .inl (SqL.of hq1), rfl, by decide, false, by rw [hin]; rfl, iteF ?_⟩
    by_cases l1 : (a.length : Int) < 1
    case pos =>
      refine ⟨_, rfl, a, rfl, hl, _, 1, rfl, rfl, true, congrArg V.bl (decide_eq_true l1), iteT (iteT ?_)⟩
      have z := kq H1 s1
      unfold GN.isNameB at z
      rw [decide_eq_false (by omega : ¬ 1 ≤ a.length)] at z
      exact (show Q (V.bl false) H1 by simpa using z)
    refine ⟨_, rfl, a, rfl, hl, _, 1, rfl, rfl, false, congrArg V.bl (decide_eq_false l1), iteF ?_⟩
    by_cases l8 : (a.length : Int) > 8
    case pos =>
      refine ⟨_, rfl, a, rfl, hl, _, 8, rfl, rfl, true, congrArg V.bl (decide_eq_true l8), iteT ?_⟩
      have z := kq H1 s1
      unfold GN.isNameB at z
      rw [decide_eq_false (by omega : ¬ a.length ≤ 8)] at z
      exact (show Q (V.bl false) H1 by simpa using z)
    refine ⟨_, rfl, a, rfl, hl, _, 8, rfl, rfl, false, congrArg V.bl (decide_eq_false l8), iteF ?_⟩
    refine ⟨_, rfl, a, rfl, fun D hD => ?_⟩
    refine KD.lc_str (fun i H5 => Same H1 H5 ∧ H5 D = some (.lst ((a.cps.toList.take i).map fun c => V.bl (decide (c ∈ GN.letters.cps.toList))))) ⟨KD.Same.upd hD, by rw [upd_same]; rfl⟩ (fun i c H5 hc q5 => ?_) (fun H5 q5 => ?_)
    · obtain ⟨s5, h5⟩ := q5
      refine ⟨rfl, ?_⟩
      unfold tYes
      simp only [if_true]
      have hi : i < a.cps.size := (Array.getElem?_eq_some_iff.mp hc).1
      have li : i < 1000 := Nat.lt_of_lt_of_le hi la
      refine ⟨_, rfl, c, GN.letters, rfl, rfl, _, h5, ?_, fun x u hx => ?_, ?_⟩
      · rw [List.length_map, List.length_take]
        exact Nat.lt_of_le_of_lt (show _ ≤ 1000 by omega) (by decide)
      · rw [upd_ne (ne_of_none hx hD)]
        exact s5 _ _ hx
      · rw [upd_same, List.take_succ, Array.getElem?_toList, hc, List.map_append]
        rfl
    · obtain ⟨s5, h5⟩ := q5
      refine ⟨D, a.cps.toList.map (fun c => decide (c ∈ GN.letters.cps.toList)), rfl, SqL.of ?_, ?_⟩
      · rw [h5, List.map_map, ← Array.length_toList, List.take_length]
        rfl
      · have z := kq H5 (s1.trans s5)
        unfold GN.isNameB at z
        rw [hin, decide_eq_true (by omega : 1 ≤ a.length), decide_eq_true (by omega : a.length ≤ 8)] at z
        rw [List.all_map]
        simpa using z
theorem ok_ko (F : Fun K "_law_kind_of" "_law_kind_of" sKo f fd) (b : Binds K fd pKo []) (m : mg "_law_kind_of" = some (.ref f)) (Fn : Fun K "_law_is_name" "_law_is_name" sNm fn fdn) (bn : Binds K fdn ["_law_thing"] []) (mn : mg "_law_is_name" = some (.ref fn)) (X : TxQ mg) :
    ∀ h, FnOk P w K mg base CX0 (2 + h) f fd pKo (spKo h)
  | 0 => by
    refine F.ok scKo (fun vs H Q E h => ?_) (fun cdv A0 outer s H vs Q E hr h => ?_)
    · obtain ⟨d, kl, ar, v, t, kn, as, rows, rfl, _⟩ := h
      rfl
    · obtain ⟨d, kl, ar, v, t, kn, as, rows, rfl, _, _, z, _⟩ := h
      exact z.elim
  | h + 1 => by
    have IH := ok_ko F b m Fn bn mn X h
    rw [show 2 + (h + 1) = (2 + h) + 1 by omega]
    refine F.ok scKo (fun vs H Q E h => ?_) (fun cdv A0 outer s H vs Q E hr hq => ?_)
    · obtain ⟨d, kl, ar, v, t, kn, as, rows, rfl, _⟩ := h
      rfl
    obtain ⟨d, kl, ar, v, t, kn, as, rows, rfl, hL, hd, hh, ha, hak, kq⟩ := hq
    refine ⟨_, /-TK-/(pss_cons (ps_if (PW.pt (pw_or (pt_not (pt_val (pe_callB call_isi (by rfl) X.isi GN.boot_isi (pa_cons (pv 2) (pa_cons (pe_bltn (v := .ty "tuple") rfl X.tup boot_tupT rfl) pa_nil))))) (pw_or (pt_cmpR (op_eqNil (hu0 hr)) (pv 2) (pe_tup pa_nil) (nomark _)) (pw_or1 (pt_not (pt_val (pe_callB call_isi (by rfl) X.isi GN.boot_isi (pa_cons (pe_ix ix_tup (pv 2) pe_int (fun _ _ => rfl)) (pa_cons (pe_bltn (v := .ty "str") rfl X.str GN.boot_strT rfl) pa_nil))))))))) (pss_one
        (ps_ret pe_non)) pss_nil)
      (pss_cons (ps_if (PW.pt (pw_and (pt_cmpR op_eq (pe_ix ix_tup (pv 2) pe_int (fun _ _ => rfl)) pe_str (nomark _)) (pw_and (pt_cmpR op_eq (pe_callB call_len_seq (by rfl) X.len PySem.boot_len (pa_cons (pv 2) pa_nil)) pe_int (nomark _)) (pw_and (pt_val (pe_callB call_isi (by rfl) X.isi GN.boot_isi (pa_cons (pe_ix ix_tup (pv 2) pe_int (fun _ _ => rfl)) (pa_cons (pe_bltn (v := .ty "int") rfl X.int boot_intT rfl) pa_nil)))) (pw_and1 (pt_not (pt_val (pe_callB call_isi (by rfl) X.isi GN.boot_isi (pa_cons (pe_ix ix_tup (pv 2) pe_int (fun _ _ => rfl)) (pa_cons (pe_bltn (v := .ty "bool") rfl X.bool boot_boolT rfl) pa_nil)))))))))) (pss_one
        (ps_ret (pe_dget1 (hu_of hr) (pe_dEnum rfl X.dict rfl X.enu (pv 3)) (pe_ix ix_tup (pv 2) pe_int (fun _ _ => rfl)) ⟨by rfl, by rfl, by rfl, by rfl⟩))) pss_nil)
      (pss_cons (ps_if (PW.pt (pw_or (pt_cmpR op_ne (pe_callB call_len_seq (by rfl) X.len PySem.boot_len (pa_cons (pv 2) pa_nil)) pe_int (nomark _)) (pw_or1 (pt_not (pt_val (pe_callB call_isi (by rfl) X.isi GN.boot_isi (pa_cons (pe_ix ix_tup (pv 2) pe_int (fun _ _ => rfl)) (pa_cons (pe_bltn (v := .ty "str") rfl X.str GN.boot_strT rfl) pa_nil)))))))) (pss_one
        (ps_ret pe_non)) pss_nil)
      (pss_cons (ps_if (PW.pt (pw_and (pt_cmpR op_eq (pe_ix ix_tup (pv 2) pe_int (fun _ _ => rfl)) pe_str (nomark _)) (pw_and (pt_val (pe_callB call_isi (by rfl) X.isi GN.boot_isi (pa_cons (pe_ix ix_tup (pv 2) pe_int (fun _ _ => rfl)) (pa_cons (pe_bltn (v := .ty "str") rfl X.str GN.boot_strT rfl) pa_nil)))) (pw_and (pt_cmpR op_in_seq (pe_ix ix_tup (pv 2) pe_int (fun _ _ => rfl)) (pv 1) (by rfl)) (pw_and1 (pt_val (pe_call (ok_nm Fn X) (hr.mono (by omega)) rfl mn Fn.kp bn .nil pass0 (pa_cons (pe_ix ix_tup (pv 2) pe_int (fun _ _ => rfl)) pa_nil)))))))) (pss_one
        (ps_ret (pe_ix ix_tup (pv 2) pe_int (fun _ _ => rfl)))) pss_nil)
      (pss_cons (ps_if (PW.pt (pw_or (pt_cmpR op_ne (pe_ix ix_tup (pv 2) pe_int (fun _ _ => rfl)) pe_str (nomark _)) (pw_or (pt_cmp (pc_dnotin (hu_of hr) (pe_ix ix_tup (pv 2) pe_int (fun _ _ => rfl)) (pv 0))) (pw_or1 (pt_not (pt_val (pe_callB call_isi (by rfl) X.isi GN.boot_isi (pa_cons (pe_ix ix_tup (pv 2) pe_int (fun _ _ => rfl)) (pa_cons (pe_bltn (v := .ty "tuple") rfl X.tup boot_tupT rfl) pa_nil))))))))) (pss_one
        (ps_ret pe_non)) pss_nil)
      (pss_cons (ps_if (pt_cmpR (op_neD (KD.u64 hr)) (pe_lc (own := [("_law_part", 4)]) (g := gName 4) (tt := tYes) rfl scKo.nd (pi_tup (pe_ix ix_tup (pv 2) pe_int (fun _ _ => rfl))) (blkOk_by (N := nKo) (sc := defScope sKo) (by decide +kernel)) (fun _ _ _ _ _ => pg_name (i := 4) scKo.nd rfl (Or.inl rfl)) (fun _ _ _ _ _ => pts_nil) (fun _ _ _ _ _ => pe_call IH (hr.mono (by omega)) rfl m F.kp b .nil pass0 (pa_cons (pv 0) (pa_cons (pv 1) (pa_cons (pv 4) (pa_cons (pv 3) pa_nil)))))) (pe_ix ix_tup (pe_dget (hu_of hr) (pv 0) (pe_ix ix_tup (pv 2) pe_int (fun _ _ => rfl)) (fun _ _ => rfl)) pe_int (fun _ _ => rfl)) (nomark _)) (pss_one
        (ps_ret pe_non)) pss_nil)
      (pss_one
        (ps_ret (pe_ix ix_tup (pe_dget (hu_of hr) (pv 0) (pe_ix ix_tup (pv 2) pe_int (fun _ _ => rfl)) (fun _ _ => rfl)) pe_int (fun _ _ => rfl))))))))))/-TKE-/, ?_⟩
    have ret : ∀ {H1 : Hp} {r : Option Str}, Same H H1 → kw (grOf kn rows) (h + 1) t as = r → Q (oV r) H1 := fun {H1 r} s e => by
      rw [← e]
      exact kq H1 s
    obtain ⟨tt, ty, kt, _⟩ := ty_of (K := K) hd
    refine ⟨_, rfl, v, V.ty "tuple", _, _, t.isT, rfl, .ty "tuple", ty, kt, _, rfl, ?_⟩
    cases hd with
    | @tup va vs ds nv hv hl =>
      show (if (!true) = true then _ else _)
      rw [if_neg (by decide)]
      refine ⟨_, rfl, Nat.zero_le _, fun q hq => ?_⟩
      have s1 : Same H (upd H q (.tup [])) := KD.Same.upd hq
      have hq1 : upd H q (.tup []) q = some (.tup []) := upd_same
      generalize upd H q (.tup []) = H1 at s1 hq1 ⊢
      have hv1 := s1 _ _ hv
      have k1 : Kp [] H H1 := Kp.same s1
      cases hl with
      | nil =>
        exact ⟨va, q, [], rfl, rfl, SqT.of hv1, SqT.of hq1, true, rfl, iteT (iteT (ret s1 rfl))⟩
      | @cons v0 vs d0 ds hD0 hl =>
      refine ⟨va, q, _, rfl, rfl, SqT.of hv1, SqT.of hq1, false, rfl, iteF ?_⟩
      obtain ⟨t0, ty0, _, ks0, _⟩ := ty_of (K := K) (hD0.mono k1)
      refine ⟨_, rfl, _, _, _, _, rfl, rfl, SqT.of hv1, atI_nat (j := 0) rfl, v0, V.ty "str", _, _, d0.isS, rfl, .ty "str", ty0, ks0, _, rfl, ?_⟩
      by_cases hS : d0.isS = true
      case neg =>
        rw [Bool.not_eq_true] at hS
        rw [hS]
        show (if (!false) = true then _ else _)
        rw [if_pos (by decide)]
        refine ret s1 (kw_n _ h as fun w' r' z => ?_)
        injection z with z
        injection z with z1 z2
        rw [z1] at hS
        exact nomatch hS
      rw [hS]
      show (if (!true) = true then _ else _)
      rw [if_neg (by decide)]
      obtain ⟨wd, rfl⟩ : ∃ wd, d0 = .str wd := by
        cases d0 with
        | str wd => exact ⟨wd, rfl⟩
        | _ => exact nomatch hS
      obtain rfl : v0 = .str wd := by
        cases hD0
        rfl
      have lvs := hl.length
      have ha1 := s1 _ _ ha
      have hL1 := hL.same s1
      have t2f : vs.length ≠ 1 → ∀ (u : TT) (Qb : Bool → Hp → Prop), Qb false H1 → (tAnd (tTest (tOp rEq (tOp (rIxT K) (tVar 2) (tC (V.int 0))) (tC (V.str "bound")))) (tAnd (tTest (tOp rEq (tCB (KD.rLenK K) (tCons (tVar 2) tNil)) (tC (V.int 2)))) u)) (L2.start nKo [V.ref d, V.ref kl, V.ref va, V.ref ar]) H1 Qb := fun ne u Qb qf => by
        by_cases wb : wd = "bound"
        · refine ⟨_, rfl, _, _, _, _, rfl, rfl, SqT.of hv1, atI_nat (j := 0) rfl, rfl, true, congrArg V.bl (dT wb), iteT ?_⟩
          exact ⟨_, rfl, _, _, rfl, .inr (SqT.of hv1), rfl, false, congrArg V.bl (decide_eq_false (fun z => by injection z with z; rw [List.length_cons] at z; omega)), iteF qf⟩
        · exact ⟨_, rfl, _, _, _, _, rfl, rfl, SqT.of hv1, atI_nat (j := 0) rfl, rfl, false, congrArg V.bl (dF wb), iteF qf⟩
      have t3t : vs.length ≠ 2 → kw (grOf kn rows) (h + 1) (.tup (.str wd :: ds)) as = none → ∀ (u : TT) (D : Ends) (tb te : TS), (∀ σ, tb D σ H1) → (tIfS (tOr (tTest (tOp rNe (tCB (KD.rLenK K) (tCons (tVar 2) tNil)) (tC (V.int 3)))) u) tb te) D (L2.start nKo [V.ref d, V.ref kl, V.ref va, V.ref ar]) H1 := fun ne e u D tb te qt => by
        exact ⟨_, rfl, _, _, rfl, .inr (SqT.of hv1), rfl, true, congrArg V.bl (by rw [decide_eq_false (fun z => by injection z with z; rw [List.length_cons] at z; omega)]; rfl), iteT (iteT (qt _))⟩
      cases hl with
      | nil =>
        refine t2f (by simp) _ _ (iteF ?_)
        refine t3t (by simp) (kw_n _ h as fun w' r' z => by injection z with z; injection z with z1 z2; rw [← z2]; exact ⟨by simp, by simp⟩) _ _ _ _ fun σ => ?_
        exact ret s1 (kw_n _ h as fun w' r' z => by injection z with z; injection z with z1 z2; rw [← z2]; exact ⟨by simp, by simp⟩)
      | @cons v1 vs d1 ds hD1 hl =>
      obtain ⟨t1, ty1, _, ks1, ki1, kb1⟩ := ty_of (K := K) (hD1.mono k1)
      cases hl with
      | nil =>
        have ek := kw_2 (grOf kn rows) h wd d1 as
        by_cases wb : wd = "bound"
        case neg =>
          rw [if_neg wb] at ek
          refine ⟨_, rfl, _, _, _, _, rfl, rfl, SqT.of hv1, atI_nat (j := 0) rfl, rfl, false, congrArg V.bl (dF wb), iteF (iteF ?_)⟩
          exact t3t (by simp) ek _ _ _ _ fun σ => ret s1 ek
        rw [if_pos wb] at ek
        refine ⟨_, rfl, _, _, _, _, rfl, rfl, SqT.of hv1, atI_nat (j := 0) rfl, rfl, true, congrArg V.bl (dT wb), iteT ?_⟩
        refine ⟨_, rfl, _, _, rfl, .inr (SqT.of hv1), rfl, true, congrArg V.bl (decide_eq_true rfl), iteT ?_⟩
        refine ⟨_, rfl, _, _, _, _, rfl, rfl, SqT.of hv1, atI_nat (j := 1) rfl, v1, V.ty "int", _, _, d1.isI, rfl, .ty "int", ty1, ki1, _, rfl, ?_⟩
        by_cases hI : d1.isI = true
        case neg =>
          have ekb : kb d1 as = none := by
            cases d1 with
            | int i => exact absurd rfl hI
            | _ => rfl
          rw [ekb] at ek
          rw [Bool.not_eq_true] at hI
          rw [hI]
          exact iteF (iteF (t3t (by simp) ek _ _ _ _ fun σ => ret s1 ek))
        rw [hI]
        refine iteT ?_
        refine ⟨_, rfl, _, _, _, _, rfl, rfl, SqT.of hv1, atI_nat (j := 1) rfl, v1, V.ty "bool", _, _, d1.isB, rfl, .ty "bool", ty1, kb1, _, rfl, ?_⟩
        by_cases hB : d1.isB = true
        case pos =>
          have ekb : kb d1 as = none := by
            cases d1 with
            | bl i => rfl
            | _ => exact nomatch hB
          rw [ekb] at ek
          rw [hB]
          show (if (!true) = true then _ else _)
          rw [if_neg (by decide)]
          exact t3t (by simp) ek _ _ _ _ fun σ => ret s1 ek
        rw [Bool.not_eq_true] at hB
        rw [hB]
        show (if (!false) = true then _ else _)
        rw [if_pos (by decide)]
        obtain ⟨i, rfl⟩ : ∃ i, d1 = .int i := by
          cases d1 with
          | int i => exact ⟨i, rfl⟩
          | bl b => exact nomatch hB
          | _ => exact nomatch hI
        obtain rfl : v1 = .int i := by
          cases hD1
          rfl
        refine ⟨_, rfl, ar, _, rfl, SqL.of ha1, fun p hp => ⟨p, rfl, .inl ⟨_, .inl upd_same⟩, ?_⟩⟩
        have s2 := s1.trans (KD.Same.upd (o := .dK (enumK 0 (as.map V.str))) hp)
        refine ⟨_, rfl, _, _, _, _, rfl, rfl, SqT.of (s2 _ _ hv), atI_nat (j := 1) rfl, _, DGet.k (k := Sum.inl i) upd_same, ?_⟩
        have z := ret s2 ek
        have eo : (valV (enumK 0 (as.map V.str)) (Sum.inl i)).getD .non = oV (kb (.int i) as) := by
          rw [enum_val]
          show (if ((0 : Nat) : Int) ≤ i then (as.map V.str)[(i - ((0 : Nat) : Int)).toNat]? else none).getD .non = oV (if 0 ≤ i ∧ i < as.length then as[i.toNat]? else none)
          by_cases i0 : 0 ≤ i
          · rw [if_pos (by omega), show (i - ((0 : Nat) : Int)).toNat = i.toNat by omega, List.getElem?_map]
            by_cases il : i < as.length
            · rw [if_pos ⟨i0, il⟩]
              cases as[i.toNat]? <;> rfl
            · rw [if_neg (fun z => il z.2), List.getElem?_eq_none (by omega)]
              rfl
          · rw [if_neg (by omega), if_neg (fun z => i0 z.1)]
            rfl
        rw [eo]
        exact z
      | @cons v2 vs d2 ds hD2 hl =>
      cases hl with
      | cons _ _ =>
        refine t2f (by simp) _ _ (iteF ?_)
        refine t3t (by simp) (kw_n _ h as fun w' r' z => by injection z with z; injection z with z1 z2; rw [← z2]; exact ⟨by simp, by simp⟩) _ _ _ _ fun σ => ?_
        exact ret s1 (kw_n _ h as fun w' r' z => by injection z with z; injection z with z1 z2; rw [← z2]; exact ⟨by simp, by simp⟩)
      | nil =>
        have ek := kw_3 (grOf kn rows) h wd d1 d2 as
        refine t2f (by simp) _ _ (iteF ?_)
        refine ⟨_, rfl, _, _, rfl, .inr (SqT.of hv1), rfl, false, congrArg V.bl (by rw [show decide (V.int (([V.str wd, v1, v2].length : Nat) : Int) = V.int 3) = true from decide_eq_true rfl]; rfl), iteF ?_⟩
        refine ⟨_, rfl, _, _, _, _, rfl, rfl, SqT.of hv1, atI_nat (j := 1) rfl, v1, V.ty "str", _, _, d1.isS, rfl, .ty "str", ty1, ks1, _, rfl, ?_⟩
        by_cases hS1 : d1.isS = true
        case neg =>
          rw [Bool.not_eq_true] at hS1
          rw [hS1]
          show (if (!false) = true then _ else _)
          rw [if_pos (by decide)]
          refine ret (r := none) s1 ?_
          rw [ek]
          cases d1 with
          | str _ => exact nomatch hS1
          | _ => 
            show (if wd = "name" then Q3.kn (grOf kn rows) _ d2 else if wd = "made" then km (grOf kn rows) h _ d2 as else none) = none
            split
            · cases d2 <;> rfl
            · split <;> rfl
        rw [hS1]
        show (if (!true) = true then _ else _)
        rw [if_neg (by decide)]
        obtain ⟨x, rfl⟩ : ∃ x, d1 = .str x := by
          cases d1 with
          | str x => exact ⟨x, rfl⟩
          | _ => exact nomatch hS1
        obtain ⟨rfl, hx⟩ : v1 = .str x ∧ x.length ≤ 1000 := by
          cases hD1 with
          | str hx => exact ⟨rfl, hx⟩
        obtain ⟨t2, ty2, kt2, ks2, _⟩ := ty_of (K := K) (hD2.mono k1)
        have t5t : wd ≠ "made" → kw (grOf kn rows) (h + 1) (.tup [.str wd, .str x, d2]) as = none → ∀ {H2 : Hp}, Same H1 H2 → ∀ (u : TT) (D : Ends) (tb te : TS), (∀ σ, tb D σ H2) → (tIfS (tOr (tTest (tOp rNe (tOp (rIxT K) (tVar 2) (tC (V.int 0))) (tC (V.str "made")))) u) tb te) D (L2.start nKo [V.ref d, V.ref kl, V.ref va, V.ref ar]) H2 := fun ne e {H2} s u D tb te qt => by
          exact ⟨_, rfl, _, _, _, _, rfl, rfl, SqT.of (s _ _ hv1), atI_nat (j := 0) rfl, rfl, true, congrArg V.bl (by rw [dF ne]; rfl), iteT (iteT (qt _))⟩
        by_cases wn : wd = "name"
        case pos =>
          have wm : wd ≠ "made" := by
            rw [wn]
            decide +kernel
          rw [if_pos wn, kn_eq] at ek
          refine ⟨_, rfl, _, _, _, _, rfl, rfl, SqT.of hv1, atI_nat (j := 0) rfl, rfl, true, congrArg V.bl (dT wn), iteT ?_⟩
          refine ⟨_, rfl, _, _, _, _, rfl, rfl, SqT.of hv1, atI_nat (j := 2) rfl, v2, V.ty "str", _, _, d2.isS, rfl, .ty "str", ty2, ks2, _, rfl, ?_⟩
          by_cases hS2 : d2.isS = true
          case neg =>
            have ek0 : kw (grOf kn rows) (h + 1) (.tup [.str wd, .str x, d2]) as = none := by
              rw [ek]
              cases d2 with
              | str _ => exact absurd rfl hS2
              | _ => 
                show (if _ then (if false = true then _ else none) else none) = none
                rw [if_neg (show ¬ false = true by decide)]
                simp only [ite_self]
            rw [Bool.not_eq_true] at hS2
            rw [hS2]
            exact iteF (iteF (t5t wm ek0 (fun _ _ e => e) _ _ _ _ fun σ => ret s1 ek0))
          rw [hS2]
          refine iteT ?_
          obtain ⟨k, rfl⟩ : ∃ k, d2 = .str k := by
            cases d2 with
            | str k => exact ⟨k, rfl⟩
            | _ => exact nomatch hS2
          obtain rfl : v2 = .str k := by
            cases hD2
            rfl
          by_cases hk : k ∈ kn
          case neg =>
            have ek0 : kw (grOf kn rows) (h + 1) (.tup [.str wd, .str x, .str k]) as = none := by
              rw [ek]
              show (if _ then (if decide (k ∈ kn) = true then _ else none) else none) = none
              rw [if_neg (show ¬ decide (k ∈ kn) = true by simpa using hk)]
              simp only [ite_self]
            refine ⟨_, rfl, _, _, _, _, rfl, rfl, SqT.of hv1, atI_nat (j := 2) rfl, _, rfl, kl, _, rfl, .inl (SqL.of hL1.k), rfl, KD.flat_strs _, false, by rw [KD.inV_str, decide_eq_false hk]; rfl, iteF (iteF ?_)⟩
            exact t5t wm ek0 (fun _ _ e => e) _ _ _ _ fun σ => ret s1 ek0
          refine ⟨_, rfl, _, _, _, _, rfl, rfl, SqT.of hv1, atI_nat (j := 2) rfl, _, rfl, kl, _, rfl, .inl (SqL.of hL1.k), rfl, KD.flat_strs _, true, by rw [KD.inV_str, decide_eq_true hk]; rfl, iteT ?_⟩
          refine ⟨_, rfl, _, _, _, _, rfl, rfl, SqT.of hv1, atI_nat (j := 1) rfl, x, rfl, hx, fun H2 s2 => ⟨_, rfl, ?_⟩⟩
          by_cases hn : GN.isNameB x = true
          case neg =>
            have ek0 : kw (grOf kn rows) (h + 1) (.tup [.str wd, .str x, .str k]) as = none := by
              rw [ek]
              show (if GN.isNameB x = true then _ else none) = none
              rw [if_neg hn]
            rw [Bool.not_eq_true] at hn
            rw [hn]
            exact iteF (t5t wm ek0 s2 _ _ _ _ fun σ => ret (s1.trans s2) ek0)
          rw [hn]
          refine iteT ?_
          refine ⟨_, rfl, _, _, _, _, rfl, rfl, SqT.of (s2 _ _ hv1), atI_nat (j := 2) rfl, ?_⟩
          refine ret (r := some k) (s1.trans s2) ?_
          rw [ek]
          show (if GN.isNameB x = true then (if decide (k ∈ kn) = true then some k else none) else none) = some k
          rw [if_pos hn]
          show (if decide (k ∈ kn) = true then some k else none) = some k
          rw [if_pos (decide_eq_true hk)]
        rw [if_neg wn] at ek
        refine ⟨_, rfl, _, _, _, _, rfl, rfl, SqT.of hv1, atI_nat (j := 0) rfl, rfl, false, congrArg V.bl (dF wn), iteF (iteF ?_)⟩
        by_cases wm : wd = "made"
        case neg =>
          rw [if_neg wm] at ek
          exact t5t wm ek (fun _ _ e => e) _ _ _ _ fun σ => ret s1 ek
        rw [if_pos wm] at ek
        obtain ⟨od, kvs, hd1, hE⟩ := id hL1.d
        refine ⟨_, rfl, _, _, _, _, rfl, rfl, SqT.of hv1, atI_nat (j := 0) rfl, rfl, false, congrArg V.bl (by rw [dT wm]; rfl), iteF ?_⟩
        cases eg : (grOf kn rows).tg x with
        | none =>
          have nv := hE.none (grOf_none eg)
          refine ⟨_, rfl, _, _, _, _, rfl, rfl, SqT.of hv1, atI_nat (j := 1) rfl, _, rfl, d, none, rfl, .inl ⟨kvs, Sum.inr x, .inr ⟨od, hd1⟩, rfl, nv.symm⟩, true, rfl, iteT (iteT (ret (r := none) s1 ?_))⟩
          rw [ek]
          unfold km
          cases d2 with
          | tup ps =>
            show (match (grOf kn rows).tg x with | some (ts, gv) => _ | none => none) = none
            rw [eg]
          | _ => rfl
        | some r =>
          obtain ⟨ts, gv⟩ := r
          have hr := grOf_some eg
          obtain ⟨vv, ev, hF⟩ := hE.row hL1.nd _ hr
          obtain ⟨fa, tk, ef, hfa, htk⟩ := hF
          have efv : vv = .ref fa := (Prod.mk.inj ef).2
          subst efv
          refine ⟨_, rfl, _, _, _, _, rfl, rfl, SqT.of hv1, atI_nat (j := 1) rfl, _, rfl, d, some (.ref fa), rfl, .inl ⟨kvs, Sum.inr x, .inr ⟨od, hd1⟩, rfl, ev.symm⟩, false, rfl, iteF ?_⟩
          refine ⟨_, rfl, _, _, _, _, rfl, rfl, SqT.of hv1, atI_nat (j := 2) rfl, v2, V.ty "tuple", _, _, d2.isT, rfl, .ty "tuple", ty2, kt2, _, rfl, ?_⟩
          have ekm : ∀ e2, km (grOf kn rows) h (.str x) e2 as = match e2 with | .tup ps => if ps.map (fun p => kw (grOf kn rows) h p as) = ts.map some then some gv else none | _ => none := fun e2 => by
            cases e2 with
            | tup ps =>
              show (match (grOf kn rows).tg x with | some (ts, gv) => _ | none => none) = _
              rw [eg]
            | _ => rfl
          rw [ekm] at ek
          cases hD2 with
          | @tup ua us ps nu hu hul =>
            show (if (!true) = true then _ else _)
            rw [if_neg (by decide)]
            have hu1 := s1 _ _ hu
            refine ⟨_, rfl, _, _, _, _, rfl, rfl, SqT.of hv1, atI_nat (j := 2) rfl, ua, rfl, ⟨_, SqT.of hu1⟩, fun Dd hDd => ?_⟩
            have lus := hul.length
            refine lc_tup (xs := us) (fun j H' => Same H1 H' ∧ H' Dd = some (.lst (((ps.take j).map fun p => kw (grOf kn rows) h p as).map oV))) ⟨KD.Same.upd hDd, by rw [upd_same]; rfl⟩ (fun j H' _ q => SqT.of (q.1 _ _ hu1)) (fun j y H' hy q => ?_) (fun H' q => ?_)
            · obtain ⟨s2, h2⟩ := q
              obtain ⟨p, hp, hP⟩ := hul.get hy
              refine ⟨rfl, ?_⟩
              unfold tYes
              simp only [if_true]
              have s02 := s1.trans s2
              refine ⟨_, rfl, _, rfl, _, rfl, _, rfl, d, kl, ar, y, p, kn, as, rows, rfl, hL.same s02, hP.mono (Kp.same s02), ?_, s02 _ _ ha, hak, fun H3 s3 => ?_⟩
              · exact dh_in (hh.2 _ (by simp)) p (List.mem_of_getElem? hp)
              have jl : j < us.length := (List.getElem?_eq_some_iff.mp hy).1
              refine ⟨_, s3 _ _ h2, ?_, fun xx u hx => ?_, ?_⟩
              · rw [List.length_map, List.length_map, List.length_take]
                have := dh_len (hh.2 (.tup ps) (by simp))
                exact Nat.lt_of_le_of_lt (show _ ≤ 1000 by omega) (by decide)
              · rw [upd_ne (ne_of_none hx hDd)]
                exact s3 _ _ (s2 _ _ hx)
              · rw [upd_same, List.take_succ, hp, List.map_append, List.map_append]
                rfl
            · obtain ⟨s2, h2⟩ := q
              rw [lus, List.take_length] at h2
              have s02 := s1.trans s2
              refine ⟨_, rfl, _, rfl, _, _, _, _, rfl, rfl, SqT.of (s2 _ _ hv1), atI_nat (j := 1) rfl, d, .ref fa, rfl, .inl ⟨kvs, Sum.inr x, .inr ⟨od, s2 _ _ hd1⟩, rfl, ev.symm⟩, ?_⟩
              have hfa2 := s2 _ _ hfa.1
              have htk2 := s2 _ _ htk.1
              have gO : ∀ k, some k ∈ ps.map (fun p => kw (grOf kn rows) h p as) → G k := fun k hk => by
                obtain ⟨p, _, e⟩ := List.mem_map.mp hk
                exact hL.g k (kw_in hL.r hak e)
              have gT : ∀ y ∈ ts, G y := fun y hy => hL.g y ((hL.r _ hr).2.2.2.2 y hy)
              refine ⟨_, _, _, _, rfl, rfl, SqT.of hfa2, atI_nat (j := 0) rfl, _, _, .lst (SqL.of h2) (oV_dp _), .lst (SqL.of htk2) (KD.strs_dp _), shaped_o gO, KD.shaped_strs gT, _, rfl, ?_⟩
              have ee : PyData.eqv (.list ((ps.map fun p => kw (grOf kn rows) h p as).map oD)) (.list (ts.map PyData.str)) = decide (ps.map (fun p => kw (grOf kn rows) h p as) = ts.map some) := by
                rw [show ts.map PyData.str = (ts.map some).map oD by rw [List.map_map]; rfl]
                simp only [PyData.eqv]
                exact eqv_o _ _
              rw [ee]
              by_cases eT : ps.map (fun p => kw (grOf kn rows) h p as) = ts.map some
              · rw [decide_eq_true eT]
                refine iteF ?_
                refine ⟨_, rfl, _, rfl, _, _, _, _, rfl, rfl, SqT.of (s2 _ _ hv1), atI_nat (j := 1) rfl, d, .ref fa, rfl, .inl ⟨kvs, Sum.inr x, .inr ⟨od, s2 _ _ hd1⟩, rfl, ev.symm⟩, _, _, _, _, rfl, rfl, SqT.of hfa2, atI_nat (j := 1) rfl, ?_⟩
                refine ret (r := some gv) s02 ?_
                rw [ek]
                show (if ps.map (fun p => kw (grOf kn rows) h p as) = ts.map some then some gv else none) = some gv
                rw [if_pos eT]
              · rw [decide_eq_false eT]
                refine iteT (ret (r := none) s02 ?_)
                rw [ek]
                show (if ps.map (fun p => kw (grOf kn rows) h p as) = ts.map some then some gv else none) = none
                rw [if_neg eT]
          | _ =>
            show (if (!false) = true then _ else _)
            rw [if_pos (by decide)]
            exact ret (r := none) s1 ek
    | _ =>
      show (if (!false) = true then _ else _)
      rw [if_pos (by decide)]
      exact ret (fun _ _ e => e) (kw_n _ h as fun w' r' z => nomatch z)
end
end Q3

/-! LW2: _law_is. -/
namespace Q3
open PySem PySem.Spec PyProof.Rows L2 GenW GxR NdefX GX
open KD (top FAt Each RowG)
open KM (G)
abbrev noNot : List Str := ["no", "not"]
abbrev anOr : List Str := ["and", "or", "so"]
abbrev alSo : List Str := ["all", "some"]
theorem lenW_other {wd : Str} (n : ¬ wd ∈ noNot) : lenW wd = some 3 ∨ lenW wd = none := by
  have n1 : wd ≠ "no" := fun e => n (by rw [e]; exact List.mem_cons_self)
  have n2 : wd ≠ "not" := fun e => n (by rw [e]; exact List.mem_cons_of_mem _ List.mem_cons_self)
  unfold lenW
  rw [if_neg n1, if_neg n2]
  repeat (first | (split; · exact .inl rfl) | exact .inr rfl)
def spIs (h : Nat) : Sp := fun vs H Q _ => ∃ (d kl ar : Addr) (v : V) (t : D) (kn as : List Str) (rows : List KD.Row), vs = [.ref d, .ref kl, v, .ref ar] ∧ LwG H d kl kn rows ∧ DS [] H v t ∧ dh h t ∧ H ar = some (.lst (as.map V.str)) ∧ (∀ x ∈ as, x ∈ kn) ∧ as.length + h ≤ 300 ∧ ∀ H', Same H H' → Q (.bl (isD (grOf kn rows) h t as)) H'
abbrev sIs : Stmt := top 55
abbrev nIs : List Str := ["_law_makes_here", "_law_kinds_here", "_law_thing", "_law_around", "_law_word_here", "_law_told", "_law_one"]
abbrev pIs : List Str := ["_law_makes_here", "_law_kinds_here", "_law_thing", "_law_around"]
theorem scIs : FnScope nIs pIs (defScope sIs) := ⟨rfl, rfl, rfl, by decide +kernel, rfl, by decide +kernel, by decide +kernel⟩
section
variable {P : Program} {w : World} {K : PySem.W.Frag} {mg : Str → Option Value} {base : Heap} {f fn fk : Addr} {fd fdn fdk : FuncData}
theorem ok_is (F : Fun K "_law_is" "_law_is" sIs f fd) (b : Binds K fd pIs []) (m : mg "_law_is" = some (.ref f)) (Fk : Fun K "_law_kind_of" "_law_kind_of" sKo fk fdk) (bk : Binds K fdk pKo []) (mk : mg "_law_kind_of" = some (.ref fk)) (Fn : Fun K "_law_is_name" "_law_is_name" sNm fn fdn) (bn : Binds K fdn ["_law_thing"] []) (mn : mg "_law_is_name" = some (.ref fn)) (X : TxQ mg) :
    ∀ h, FnOk P w K mg base CX0 (3 + h) f fd pIs (spIs h)
  | 0 => by
    refine F.ok scIs (fun vs H Q E h => ?_) (fun cdv A0 outer s H vs Q E hr h => ?_)
    · obtain ⟨d, kl, ar, v, t, kn, as, rows, rfl, _⟩ := h
      rfl
    · obtain ⟨d, kl, ar, v, t, kn, as, rows, rfl, _, _, z, _⟩ := h
      exact z.elim
  | h + 1 => by
    have IH := ok_is F b m Fk bk mk Fn bn mn X h
    rw [show 3 + (h + 1) = (3 + h) + 1 by omega]
    refine F.ok scIs (fun vs H Q E h => ?_) (fun cdv A0 outer s H vs Q E hr hq => ?_)
    · obtain ⟨d, kl, ar, v, t, kn, as, rows, rfl, _⟩ := h
      rfl
    obtain ⟨d, kl, ar, v, t, kn, as, rows, rfl, hL, hd, hh, ha, hak, has, kq⟩ := hq
    refine ⟨_, /-TI-/(pss_cons (ps_if (PW.pt (pw_or (pt_not (pt_val (pe_callB call_isi (by rfl) X.isi GN.boot_isi (pa_cons (pv 2) (pa_cons (pe_bltn (v := .ty "tuple") rfl X.tup boot_tupT rfl) pa_nil))))) (pw_or (pt_cmpR (op_eqNil (hu0 hr)) (pv 2) (pe_tup pa_nil) (nomark _)) (pw_or1 (pt_not (pt_val (pe_callB call_isi (by rfl) X.isi GN.boot_isi (pa_cons (pe_ix ix_tup (pv 2) pe_int (fun _ _ => rfl)) (pa_cons (pe_bltn (v := .ty "str") rfl X.str GN.boot_strT rfl) pa_nil))))))))) (pss_one
        (ps_ret pe_bl)) pss_nil)
      (pss_cons (ps_set (i := 4) scIs.nd rfl (Or.inl rfl) (pe_ix ix_tup (pv 2) pe_int (fun _ _ => rfl)))
      (pss_cons (ps_if (pt_cmpR op_in_seq (pv 4) (pe_lst (pa_cons pe_str (pa_cons pe_str pa_nil))) (by rfl)) (pss_cons (ps_if (pt_cmpR op_ne (pe_callB call_len_seq (by rfl) X.len PySem.boot_len (pa_cons (pv 2) pa_nil)) (pe_op op_add pe_int (pe_callTy call_int1 (by rfl) X.int PyProof.Rows.boot_int (pa_cons (pe_cmpR op_eq (pv 4) pe_str (nomark _)) pa_nil))) (nomark _)) (pss_one
        (ps_ret pe_bl)) pss_nil)
      (pss_one
        (ps_ret (pe_callB (cr_all rfl) (by rfl) X.all GN.boot_all (pa_cons (pe_lc (own := [("_law_one", 6)]) (g := gName 6) (tt := tYes) rfl scIs.nd (pi_tup (pe_slice sl_tupA (pv 2) (po_some pe_int) po_none)) (blkOk_by (N := nIs) (sc := defScope sIs) (by decide +kernel)) (fun _ _ _ _ _ => pg_name (i := 6) scIs.nd rfl (Or.inl rfl)) (fun _ _ _ _ _ => pts_nil) (fun _ _ _ _ _ => (pe_call IH (hr.mono (by omega)) rfl m F.kp b .nil pass0 (pa_cons (pv 0) (pa_cons (pv 1) (pa_cons (pv 6) (pa_cons (pv 3) pa_nil))))))) pa_nil))))) pss_nil)
      (pss_cons (ps_if (pt_cmpR op_ne (pe_callB call_len_seq (by rfl) X.len PySem.boot_len (pa_cons (pv 2) pa_nil)) pe_int (nomark _)) (pss_one
        (ps_ret pe_bl)) pss_nil)
      (pss_cons (ps_if (pt_cmpR op_eq (pv 4) pe_str (nomark _)) (pss_cons (ps_setLc (i := 5) (own := [("_law_one", 6)]) (g := gName 6) (tt := tYes) (te := tCall (spKo h) [] E0 (tCons (tVar 0) (tCons (tVar 1) (tCons (tVar 6) (tCons (tVar 3) tNil))))) rfl scIs.nd rfl rfl rfl (pi_tup (pe_slice sl_tupA (pv 2) (po_some pe_int) po_none)) (blkOk_by (N := nIs) (sc := defScope sIs) (by decide +kernel)) (fun _ _ _ _ _ => pg_name (i := 6) scIs.nd rfl (Or.inl rfl)) (fun _ _ _ _ _ => pts_nil) (fun _ _ _ _ _ => (pe_call (ok_ko Fk bk mk Fn bn mn X h) (hr.mono (by omega)) rfl mk Fk.kp bk .nil pass0 (pa_cons (pv 0) (pa_cons (pv 1) (pa_cons (pv 6) (pa_cons (pv 3) pa_nil)))))))
      (pss_one
        (ps_ret (pe_and (pe_cmpR op_notN (pe_ix ix_list (pv 5) pe_int (fun _ _ => rfl)) pe_non (nomark _)) (pe_one (pe_cmpR op_eq (pe_ix ix_list (pv 5) pe_int (fun _ _ => rfl)) (pe_ix ix_list (pv 5) pe_int (fun _ _ => rfl)) (nomark _))))))) pss_nil)
      (pss_cons (ps_if (pt_cmpR op_in_seq (pv 4) (pe_lst (pa_cons pe_str (pa_cons pe_str (pa_cons pe_str pa_nil)))) (by rfl)) (pss_one
        (ps_ret (pe_callB (cr_all rfl) (by rfl) X.all GN.boot_all (pa_cons (pe_lc (own := [("_law_one", 6)]) (g := gName 6) (tt := tYes) rfl scIs.nd (pi_tup (pe_slice sl_tupA (pv 2) (po_some pe_int) po_none)) (blkOk_by (N := nIs) (sc := defScope sIs) (by decide +kernel)) (fun _ _ _ _ _ => pg_name (i := 6) scIs.nd rfl (Or.inl rfl)) (fun _ _ _ _ _ => pts_nil) (fun _ _ _ _ _ => (pe_call IH (hr.mono (by omega)) rfl m F.kp b .nil pass0 (pa_cons (pv 0) (pa_cons (pv 1) (pa_cons (pv 6) (pa_cons (pv 3) pa_nil))))))) pa_nil)))) pss_nil)
      (pss_cons (ps_if (PW.pt (pw_or (pt_cmpR op_notIn_seq (pv 4) (pe_lst (pa_cons pe_str (pa_cons pe_str pa_nil))) (by rfl)) (pw_or (pt_not (pt_val (pe_callB call_isi (by rfl) X.isi GN.boot_isi (pa_cons (pe_ix ix_tup (pv 2) pe_int (fun _ _ => rfl)) (pa_cons (pe_bltn (v := .ty "str") rfl X.str GN.boot_strT rfl) pa_nil))))) (pw_or1 (pt_cmpR op_notIn_seq (pe_ix ix_tup (pv 2) pe_int (fun _ _ => rfl)) (pv 1) (by rfl)))))) (pss_one
        (ps_ret pe_bl)) pss_nil)
      (pss_one
        (ps_ret (pe_call IH (hr.mono (by omega)) rfl m F.kp b .nil pass0 (pa_cons (pv 0) (pa_cons (pv 1) (pa_cons (pe_ix ix_tup (pv 2) pe_int (fun _ _ => rfl)) (pa_cons (pe_op op_cat (pe_lst (pa_cons (pe_ix ix_tup (pv 2) pe_int (fun _ _ => rfl)) pa_nil)) (pv 3)) pa_nil))))))))))))))/-TIE-/, ?_⟩
    have ret : ∀ {H1 : Hp} {r : Bool}, Same H H1 → isD (grOf kn rows) (h + 1) t as = r → Q (.bl r) H1 := fun {H1 r} s e => by
      rw [← e]
      exact kq H1 s
    obtain ⟨tt, ty, kt, _⟩ := ty_of (K := K) hd
    refine ⟨_, rfl, v, V.ty "tuple", _, _, t.isT, rfl, .ty "tuple", ty, kt, _, rfl, ?_⟩
    cases hd with
    | @tup va vs ds nv hv hl =>
      show (if (!true) = true then _ else _)
      rw [if_neg (by decide)]
      refine ⟨_, rfl, Nat.zero_le _, fun q hq => ?_⟩
      have s1 : Same H (upd H q (.tup [])) := KD.Same.upd hq
      have hq1 : upd H q (.tup []) q = some (.tup []) := upd_same
      generalize upd H q (.tup []) = H1 at s1 hq1 ⊢
      have hv1 := s1 _ _ hv
      have k1 : Kp [] H H1 := Kp.same s1
      cases hl with
      | nil =>
        exact ⟨va, q, [], rfl, rfl, SqT.of hv1, SqT.of hq1, true, rfl, iteT (iteT (ret s1 rfl))⟩
      | @cons v0 vs d0 ds hD0 hl =>
      refine ⟨va, q, _, rfl, rfl, SqT.of hv1, SqT.of hq1, false, rfl, iteF ?_⟩
      obtain ⟨t0, ty0, _, ks0, _⟩ := ty_of (K := K) (hD0.mono k1)
      refine ⟨_, rfl, _, _, _, _, rfl, rfl, SqT.of hv1, atI_nat (j := 0) rfl, v0, V.ty "str", _, _, d0.isS, rfl, .ty "str", ty0, ks0, _, rfl, ?_⟩
      by_cases hS : d0.isS = true
      case neg =>
        rw [Bool.not_eq_true] at hS
        rw [hS]
        show (if (!false) = true then _ else _)
        rw [if_pos (by decide)]
        refine ret s1 (isD_n _ h as fun w' r' z => ?_)
        injection z with z
        injection z with z1 z2
        rw [z1] at hS
        exact nomatch hS
      rw [hS]
      show (if (!true) = true then _ else _)
      rw [if_neg (by decide)]
      obtain ⟨wd, rfl⟩ : ∃ wd, d0 = .str wd := by
        cases d0 with
        | str wd => exact ⟨wd, rfl⟩
        | _ => exact nomatch hS
      obtain rfl : v0 = .str wd := by
        cases hD0
        rfl
      have lvs := hl.length
      refine ⟨_, rfl, _, _, _, _, rfl, rfl, SqT.of hv1, atI_nat (j := 0) rfl, ?_⟩
      refine ⟨_, rfl, by show 2 ≤ sizeLine; decide, fun q2 hq2 => ?_⟩
      have s2 := s1.trans (KD.Same.upd (o := .lst [.str "no", .str "not"]) hq2)
      have hq22 : upd H1 q2 (.lst [.str "no", .str "not"]) q2 = some (.lst [.str "no", .str "not"]) := upd_same
      show rIn K false (.str wd) (.ref q2) (upd H1 q2 (.lst [.str "no", .str "not"])) _
      generalize upd H1 q2 (.lst [.str "no", .str "not"]) = H2 at s2 hq22 ⊢
      have hv2 := s2 _ _ hv
      have e2 : inV (.str wd) [.str "no", .str "not"] = decide (wd ∈ noNot) := KD.inV_str (l := noNot)
      by_cases w2 : wd ∈ noNot
      case pos =>
        refine ⟨q2, _, rfl, .inl (SqL.of hq22), rfl, by decide, true, by rw [e2, decide_eq_true w2]; rfl, iteT ?_⟩
        have eL : lenW wd = some (if wd = "not" then 2 else 1) := by
          rcases List.mem_cons.mp w2 with e | e
          · rw [e]
            decide +kernel
          · rw [List.mem_singleton.mp e]
            decide +kernel
        have eI : decide (V.str wd = V.str "not") = decide (wd = "not") := by
          by_cases e : wd = "not"
          · rw [dT e, decide_eq_true e]
          · rw [dF e, decide_eq_false e]
        have eN : (1 : Int) + (if decide (V.str wd = V.str "not") = true then 1 else 0) = (((if wd = "not" then 2 else 1) : Nat) : Int) := by
          rw [eI]
          by_cases e : wd = "not"
          · rw [decide_eq_true e, if_pos rfl, if_pos e]
            rfl
          · rw [decide_eq_false e, if_neg (by decide), if_neg e]
            rfl
        by_cases hlen : lenW wd = some (ds.length + 1)
        case neg =>
          refine ⟨_, rfl, _, _, rfl, .inr (SqT.of hv2), _, rfl, rfl, .inr ⟨_, rfl, _, _, rfl, rfl, rfl, true, ?_, iteT (ret s2 (isD_no _ h wd ds as hlen))⟩⟩
          show V.bl (!decide (V.int (((V.str wd :: vs).length : Nat) : Int) = V.int ((1 : Int) + (if decide (V.str wd = V.str "not") = true then 1 else 0)))) = _
          rw [eN, decide_eq_false (fun z => hlen ?_)]
          · rfl
          · injection z with z
            rw [List.length_cons] at z
            rw [eL, ← lvs]
            congr 1
            omega
        refine ⟨_, rfl, _, _, rfl, .inr (SqT.of hv2), _, rfl, rfl, .inr ⟨_, rfl, _, _, rfl, rfl, rfl, false, ?_, iteF ?_⟩⟩
        · rw [eL] at hlen
          have hlen := Option.some.inj hlen
          show V.bl (!decide (V.int (((V.str wd :: vs).length : Nat) : Int) = V.int ((1 : Int) + (if decide (V.str wd = V.str "not") = true then 1 else 0)))) = _
          rw [eN, hlen, decide_eq_true (by rw [List.length_cons, lvs])]
          rfl
        have ea := isD_all (grOf kn rows) h wd ds as hlen (fun e => by rw [e] at w2; exact absurd w2 (by decide +kernel)) (fun e => by rw [e] at w2; exact absurd w2 (by decide +kernel)) (fun e => by rw [e] at w2; exact absurd w2 (by decide +kernel))
        refine ⟨_, rfl, 1, rfl, _, _, rfl, SqT.of hv2, fun z => absurd z.1 (cut1 _ _).1, fun _ p3 hp3 => ?_⟩
        rw [(cut1 _ _).2]
        have s3 := s2.trans (KD.Same.upd (o := .tup vs) hp3)
        have h3 : upd H2 p3 (.tup vs) p3 = some (.tup vs) := upd_same
        generalize upd H2 p3 (.tup vs) = H3 at s3 h3 ⊢
        refine ⟨p3, rfl, ⟨_, SqT.of h3⟩, fun Dd hDd => ?_⟩
        refine lc_tup (xs := vs) (fun j H' => Same H3 H' ∧ H' Dd = some (.lst ((ds.take j).map fun p => V.bl (isD (grOf kn rows) h p as)))) ⟨KD.Same.upd hDd, by rw [upd_same]; rfl⟩ (fun j H' _ q => SqT.of (q.1 _ _ h3)) (fun j y H' hy q => ?_) (fun H' q => ?_)
        · obtain ⟨s4, h4⟩ := q
          obtain ⟨p, hp, hP⟩ := hl.get hy
          refine ⟨rfl, ?_⟩
          unfold tYes
          simp only [if_true]
          have s04 := s3.trans s4
          refine ⟨_, rfl, _, rfl, _, rfl, _, rfl, d, kl, ar, y, p, kn, as, rows, rfl, hL.same s04, hP.mono (Kp.same s04), hh.2 p (List.mem_cons_of_mem _ (List.mem_of_getElem? hp)), s04 _ _ ha, hak, by omega, fun H5 s5 => ?_⟩
          have jl : j < vs.length := (List.getElem?_eq_some_iff.mp hy).1
          refine ⟨_, s5 _ _ h4, ?_, fun xx u hx => ?_, ?_⟩
          · rw [List.length_map, List.length_take]
            have := hh.1
            rw [List.length_cons] at this
            exact Nat.lt_of_le_of_lt (show _ ≤ 1000 by omega) (by decide)
          · rw [upd_ne (ne_of_none hx hDd)]
            exact s5 _ _ (s4 _ _ hx)
          · rw [upd_same, List.take_succ, hp, List.map_append]
            rfl
        · obtain ⟨s4, h4⟩ := q
          rw [lvs, List.take_length] at h4
          refine ⟨Dd, ds.map (fun p => isD (grOf kn rows) h p as), rfl, SqL.of (by rw [h4, List.map_map]; rfl), ?_⟩
          refine ret (s3.trans s4) ?_
          rw [ea, List.all_map]
          rfl
      refine ⟨q2, _, rfl, .inl (SqL.of hq22), rfl, by decide, false, by rw [e2, decide_eq_false w2]; rfl, iteF ?_⟩
      have eo := lenW_other w2
      by_cases l2 : ds.length = 2
      case neg =>
        refine ⟨_, rfl, _, _, rfl, .inr (SqT.of hv2), rfl, true, ?_, iteT (ret s2 (isD_no _ h wd ds as ?_))⟩
        · rw [decide_eq_false (fun z => l2 (by injection z with z; rw [List.length_cons] at z; omega))]
          rfl
        · rcases eo with e | e
          · rw [e]
            intro z
            have := Option.some.inj z
            omega
          · rw [e]
            exact fun z => nomatch z
      refine ⟨_, rfl, _, _, rfl, .inr (SqT.of hv2), rfl, false, ?_, iteF ?_⟩
      · rw [show decide (V.int (((V.str wd :: vs).length : Nat) : Int) = V.int 3) = true from decide_eq_true (by rw [List.length_cons, lvs, l2]; rfl)]
        rfl
      by_cases ws : wd = "same"
      case pos =>
        refine ⟨_, rfl, rfl, true, congrArg V.bl (dT ws), iteT ?_⟩
        match ds, l2 with
        | [d1, d2], _ =>
        cases hl with
        | @cons v1 _ _ _ hD1 hl =>
        cases hl with
        | @cons v2 _ _ _ hD2 hl =>
        cases hl
        have ek : isD (grOf kn rows) (h + 1) (.tup [.str wd, d1, d2]) as = ((kw (grOf kn rows) h d1 as).isSome && decide (kw (grOf kn rows) h d1 as = kw (grOf kn rows) h d2 as)) := by
          show (if wd = "same" then _ else _) = _
          rw [if_pos ws]
        have hl2 : DSL [] H [v1, v2] [d1, d2] := .cons hD1 (.cons hD2 .nil)
        refine ⟨_, rfl, 1, rfl, _, _, rfl, SqT.of hv2, fun z => absurd z.1 (cut1 _ _).1, fun _ p3 hp3 => ?_⟩
        rw [(cut1 _ _).2]
        have s3 := s2.trans (KD.Same.upd (o := .tup [v1, v2]) hp3)
        have h3 : upd H2 p3 (.tup [v1, v2]) p3 = some (.tup [v1, v2]) := upd_same
        generalize upd H2 p3 (.tup [v1, v2]) = H3 at s3 h3 ⊢
        refine ⟨p3, rfl, ⟨_, SqT.of h3⟩, fun Dd hDd => ?_⟩
        refine lc_tup (xs := [v1, v2]) (fun j H' => Same H3 H' ∧ H' Dd = some (.lst ((([d1, d2] : List D).take j).map fun p => oV (kw (grOf kn rows) h p as)))) ⟨KD.Same.upd hDd, by rw [upd_same]; rfl⟩ (fun j H' _ q => SqT.of (q.1 _ _ h3)) (fun j y H' hy q => ?_) (fun H' q => ?_)
        · obtain ⟨s4, h4⟩ := q
          obtain ⟨p, hp, hP⟩ := hl2.get hy
          refine ⟨rfl, ?_⟩
          unfold tYes
          simp only [if_true]
          have s04 := s3.trans s4
          refine ⟨_, rfl, _, rfl, _, rfl, _, rfl, d, kl, ar, y, p, kn, as, rows, rfl, hL.same s04, hP.mono (Kp.same s04), hh.2 p (List.mem_cons_of_mem _ (List.mem_of_getElem? hp)), s04 _ _ ha, hak, fun H5 s5 => ?_⟩
          have jl : j < 2 := (List.getElem?_eq_some_iff.mp hy).1
          refine ⟨_, s5 _ _ h4, ?_, fun xx u hx => ?_, ?_⟩
          · rw [List.length_map, List.length_take]
            exact Nat.lt_of_le_of_lt (show _ ≤ 1000 by omega) (by decide)
          · rw [upd_ne (ne_of_none hx hDd)]
            exact s5 _ _ (s4 _ _ hx)
          · rw [upd_same, List.take_succ, hp, List.map_append]
            rfl
        · obtain ⟨s4, h4⟩ := q
          have h4 : H' Dd = some (.lst [oV (kw (grOf kn rows) h d1 as), oV (kw (grOf kn rows) h d2 as)]) := h4
          have s04 := s3.trans s4
          cases e1 : kw (grOf kn rows) h d1 as with
          | none =>
            rw [e1] at h4
            refine ⟨_, rfl, _, _, _, _, rfl, rfl, SqL.of h4, atI_nat (j := 0) rfl, rfl, false, congrArg V.bl (by rw [show decide (oV none = V.non) = true from decide_eq_true rfl]; rfl), iteF (ret s04 ?_)⟩
            rw [ek, e1]
            rfl
          | some kd =>
            rw [e1] at h4
            refine ⟨_, rfl, _, _, _, _, rfl, rfl, SqL.of h4, atI_nat (j := 0) rfl, rfl, true, congrArg V.bl (by rw [show decide (oV (some kd) = V.non) = false from decide_eq_false (fun z => nomatch z)]; rfl), iteT ?_⟩
            refine ⟨_, rfl, _, _, _, _, rfl, rfl, SqL.of h4, atI_nat (j := 0) rfl, _, rfl, _, _, _, _, rfl, rfl, SqL.of h4, atI_nat (j := 1) rfl, ?_⟩
            cases e2' : kw (grOf kn rows) h d2 as with
            | none =>
              refine ⟨rfl, ret s04 ?_⟩
              rw [ek, e1, e2']
              rfl
            | some kd2 =>
              refine ⟨rfl, ret s04 ?_⟩
              rw [ek, e1, e2']
              show ((some kd).isSome && decide (some kd = some kd2)) = decide (V.str kd = V.str kd2)
              by_cases q : kd = kd2
              · rw [q, decide_eq_true rfl, decide_eq_true rfl]
                rfl
              · rw [dF q, decide_eq_false (fun z => q (Option.some.inj z))]
                rfl
      refine ⟨_, rfl, rfl, false, congrArg V.bl (dF ws), iteF ?_⟩
      refine ⟨_, rfl, by show 3 ≤ sizeLine; decide, fun q4 hq4 => ?_⟩
      have s4a := s2.trans (KD.Same.upd (o := .lst [.str "and", .str "or", .str "so"]) hq4)
      have hq44 : upd H2 q4 (.lst [.str "and", .str "or", .str "so"]) q4 = some (.lst [.str "and", .str "or", .str "so"]) := upd_same
      show rIn K false (.str wd) (.ref q4) (upd H2 q4 (.lst [.str "and", .str "or", .str "so"])) _
      generalize upd H2 q4 (.lst [.str "and", .str "or", .str "so"]) = H4 at s4a hq44 ⊢
      have hv4 := s4a _ _ hv
      have e4 : inV (.str wd) [.str "and", .str "or", .str "so"] = decide (wd ∈ anOr) := KD.inV_str (l := anOr)
      by_cases w4 : wd ∈ anOr
      case pos =>
        refine ⟨q4, _, rfl, .inl (SqL.of hq44), rfl, by decide, true, by rw [e4, decide_eq_true w4]; rfl, iteT ?_⟩
        have hlen : lenW wd = some (ds.length + 1) := by
          rw [l2]
          simp only [List.mem_cons, List.not_mem_nil, or_false] at w4
          rcases w4 with e | e | e <;> (rw [e]; decide +kernel)
        have ea := isD_all (grOf kn rows) h wd ds as hlen ws (fun e => by rw [e] at w4; exact absurd w4 (by decide +kernel)) (fun e => by rw [e] at w4; exact absurd w4 (by decide +kernel))
        refine ⟨_, rfl, 1, rfl, _, _, rfl, SqT.of hv4, fun z => absurd z.1 (cut1 _ _).1, fun _ p3 hp3 => ?_⟩
        rw [(cut1 _ _).2]
        have s3 := s4a.trans (KD.Same.upd (o := .tup vs) hp3)
        have h3 : upd H4 p3 (.tup vs) p3 = some (.tup vs) := upd_same
        generalize upd H4 p3 (.tup vs) = H3 at s3 h3 ⊢
        refine ⟨p3, rfl, ⟨_, SqT.of h3⟩, fun Dd hDd => ?_⟩
        refine lc_tup (xs := vs) (fun j H' => Same H3 H' ∧ H' Dd = some (.lst ((ds.take j).map fun p => V.bl (isD (grOf kn rows) h p as)))) ⟨KD.Same.upd hDd, by rw [upd_same]; rfl⟩ (fun j H' _ q => SqT.of (q.1 _ _ h3)) (fun j y H' hy q => ?_) (fun H' q => ?_)
        · obtain ⟨s4, h4⟩ := q
          obtain ⟨p, hp, hP⟩ := hl.get hy
          refine ⟨rfl, ?_⟩
          unfold tYes
          simp only [if_true]
          have s04 := s3.trans s4
          refine ⟨_, rfl, _, rfl, _, rfl, _, rfl, d, kl, ar, y, p, kn, as, rows, rfl, hL.same s04, hP.mono (Kp.same s04), hh.2 p (List.mem_cons_of_mem _ (List.mem_of_getElem? hp)), s04 _ _ ha, hak, by omega, fun H5 s5 => ?_⟩
          have jl : j < vs.length := (List.getElem?_eq_some_iff.mp hy).1
          refine ⟨_, s5 _ _ h4, ?_, fun xx u hx => ?_, ?_⟩
          · rw [List.length_map, List.length_take]
            have := hh.1
            rw [List.length_cons] at this
            exact Nat.lt_of_le_of_lt (show _ ≤ 1000 by omega) (by decide)
          · rw [upd_ne (ne_of_none hx hDd)]
            exact s5 _ _ (s4 _ _ hx)
          · rw [upd_same, List.take_succ, hp, List.map_append]
            rfl
        · obtain ⟨s4, h4⟩ := q
          rw [lvs, List.take_length] at h4
          refine ⟨Dd, ds.map (fun p => isD (grOf kn rows) h p as), rfl, SqL.of (by rw [h4, List.map_map]; rfl), ?_⟩
          refine ret (s3.trans s4) ?_
          rw [ea, List.all_map]
          rfl
      refine ⟨q4, _, rfl, .inl (SqL.of hq44), rfl, by decide, false, by rw [e4, decide_eq_false w4]; rfl, iteF ?_⟩
      refine ⟨_, rfl, by show 2 ≤ sizeLine; decide, fun q5 hq5 => ?_⟩
      have s5a := s4a.trans (KD.Same.upd (o := .lst [.str "all", .str "some"]) hq5)
      have hq55 : upd H4 q5 (.lst [.str "all", .str "some"]) q5 = some (.lst [.str "all", .str "some"]) := upd_same
      show rIn K true (.str wd) (.ref q5) (upd H4 q5 (.lst [.str "all", .str "some"])) _
      generalize upd H4 q5 (.lst [.str "all", .str "some"]) = H5 at s5a hq55 ⊢
      have hv5 := s5a _ _ hv
      have k5 : Kp [] H H5 := Kp.same s5a
      have e5 : inV (.str wd) [.str "all", .str "some"] = decide (wd ∈ alSo) := KD.inV_str (l := alSo)
      match ds, l2 with
      | [d1, d2], _ =>
      cases hl with
      | @cons v1 _ _ _ hD1 hl =>
      cases hl with
      | @cons v2 _ _ _ hD2 hl =>
      cases hl
      have w4' : ¬ (wd = "and" ∨ wd = "or" ∨ wd = "so") := by simpa using w4
      have ek : isD (grOf kn rows) (h + 1) (.tup [.str wd, d1, d2]) as = if wd = "all" ∨ wd = "some" then kindD (grOf kn rows) d1 && isD (grOf kn rows) h d2 (strD d1 :: as) else false := by
        show (if wd = "same" then _ else if wd = "and" ∨ wd = "or" ∨ wd = "so" then _ else if wd = "all" ∨ wd = "some" then _ else false) = _
        rw [if_neg ws, if_neg w4']
      by_cases w5 : wd ∈ alSo
      case neg =>
        refine ⟨q5, _, rfl, .inl (SqL.of hq55), rfl, by decide, true, by rw [e5, decide_eq_false w5]; rfl, iteT (iteT (ret s5a ?_))⟩
        rw [ek, if_neg (by simpa using w5)]
      have w5' : wd = "all" ∨ wd = "some" := by simpa using w5
      rw [if_pos w5'] at ek
      refine ⟨q5, _, rfl, .inl (SqL.of hq55), rfl, by decide, false, by rw [e5, decide_eq_true w5]; rfl, iteF ?_⟩
      obtain ⟨t1, ty1, _, ks1, _⟩ := ty_of (K := K) (hD1.mono k5)
      refine ⟨_, rfl, _, _, _, _, rfl, rfl, SqT.of hv5, atI_nat (j := 1) rfl, v1, V.ty "str", _, _, d1.isS, rfl, .ty "str", ty1, ks1, _, rfl, ?_⟩
      by_cases hS1 : d1.isS = true
      case neg =>
        have e0 : isD (grOf kn rows) (h + 1) (.tup [.str wd, d1, d2]) as = false := by
          rw [ek]
          cases d1 with
          | str _ => exact absurd rfl hS1
          | _ => rfl
        rw [Bool.not_eq_true] at hS1
        rw [hS1]
        show (if (!false) = true then _ else _)
        rw [if_pos (by decide)]
        exact iteT (ret s5a e0)
      rw [hS1]
      show (if (!true) = true then _ else _)
      rw [if_neg (by decide)]
      obtain ⟨x, rfl⟩ : ∃ x, d1 = .str x := by
        cases d1 with
        | str x => exact ⟨x, rfl⟩
        | _ => exact nomatch hS1
      obtain rfl : v1 = .str x := by
        cases hD1
        rfl
      have hL5 := hL.same s5a
      have ekx : kindD (grOf kn rows) (.str x) = decide (x ∈ kn) := rfl
      by_cases hx : x ∈ kn
      case neg =>
        refine ⟨_, rfl, _, _, _, _, rfl, rfl, SqT.of hv5, atI_nat (j := 1) rfl, _, rfl, kl, _, rfl, .inl (SqL.of hL5.k), rfl, KD.flat_strs _, true, by rw [KD.inV_str, decide_eq_false hx]; rfl, iteT (ret s5a ?_)⟩
        rw [ek, ekx, decide_eq_false hx]
        rfl
      rw [ekx, decide_eq_true hx, Bool.true_and] at ek
      refine ⟨_, rfl, _, _, _, _, rfl, rfl, SqT.of hv5, atI_nat (j := 1) rfl, _, rfl, kl, _, rfl, .inl (SqL.of hL5.k), rfl, KD.flat_strs _, false, by rw [KD.inV_str, decide_eq_true hx]; rfl, iteF ?_⟩
      refine ⟨_, rfl, _, rfl, _, rfl, _, _, _, _, rfl, rfl, SqT.of hv5, atI_nat (j := 2) rfl, _, rfl, _, _, _, _, rfl, rfl, SqT.of hv5, atI_nat (j := 1) rfl, by show 1 ≤ sizeLine; decide, fun q6 hq6 => ?_⟩
      have s6 := s5a.trans (KD.Same.upd (o := .lst [.str x]) hq6)
      have h66 : upd H5 q6 (.lst [.str x]) q6 = some (.lst [.str x]) := upd_same
      generalize upd H5 q6 (.lst [.str x]) = H6 at s6 h66 ⊢
      refine ⟨_, rfl, _, _, _, _, rfl, rfl, h66, s6 _ _ ha, ?_, fun q7 hq7 => ?_⟩
      · rw [List.length_map]
        exact Nat.le_trans (show 1 + as.length ≤ 1000 by omega) (by decide)
      have s7 := s6.trans (KD.Same.upd (o := .lst ([V.str x] ++ as.map V.str)) hq7)
      refine ⟨d, kl, q7, v2, d2, kn, x :: as, rows, rfl, hL.same s7, hD2.mono (Kp.same s7), hh.2 d2 (by simp), upd_same, fun y hy => ?_, by rw [List.length_cons]; omega, fun H8 s8 => ret (s7.trans s8) ek⟩
      rcases List.mem_cons.mp hy with rfl | hy
      · exact hx
      · exact hak y hy
    | _ =>
      show (if (!false) = true then _ else _)
      rw [if_pos (by decide)]
      exact ret (fun _ _ e => e) (isD_n _ h as fun w' r' z => nomatch z)
end
end Q3

/-! LW3: _law_count, _law_signs. -/
namespace Q3
open PySem PySem.Spec PyProof.Rows L2 GenW GxR NdefX GX
open KD (top)
theorem boot_sum : bootBuiltins "sum" = some (.builtin "sum") := by decide +kernel
def cnt : Nat → D → Nat
  | 0, _ => 0
  | h + 1, .tup xs => 1 + (xs.map (cnt h)).sum
  | _ + 1, _ => 1
def tv (h : Nat) (p : D) : Nat := if p.isT = true then sg h p else 0
theorem wf_tup : ∀ {h : Nat} {d : D}, Wf h d → d.isT = true
  | 0, _, z => z.elim
  | h + 1, .tup _, _ => rfl
  | h + 1, .non, z => z.elim
  | h + 1, .bl _, z => z.elim
  | h + 1, .int _, z => z.elim
  | h + 1, .str _, z => z.elim
  | h + 1, .lst _, z => z.elim
  | h + 1, .dct, z => z.elim
theorem tv_wf {h : Nat} {p : D} (w : Wf h p) : tv h p = sg h p := by
  unfold tv
  rw [if_pos (wf_tup w)]
theorem tv_no {h : Nat} {p : D} (w : p.isT = false) : tv h p = 0 := by
  unfold tv
  rw [if_neg (by rw [w]; decide)]
theorem wf_str : ∀ {h : Nat} {d : D}, Wf (h + 1) d → ∃ wd ds, d = .tup (.str wd :: ds) ∧ ds.length ≤ 2
  | h, .tup [.str wd], _ => ⟨wd, [], rfl, by decide⟩
  | h, .tup [.str wd, a], _ => ⟨wd, [a], rfl, by simp⟩
  | h, .tup [.str wd, a, b], _ => ⟨wd, [a, b], rfl, by simp⟩
  | h, .tup [], w => w.elim
  | h, .tup (.str _ :: _ :: _ :: _ :: _), w => w.elim
  | h, .tup [.non], w => w.elim
  | h, .tup [.bl _], w => w.elim
  | h, .tup [.int _], w => w.elim
  | h, .tup [.tup _], w => w.elim
  | h, .tup [.lst _], w => w.elim
  | h, .tup [.dct], w => w.elim
  | h, .tup [.non, _], w => w.elim
  | h, .tup [.bl _, _], w => w.elim
  | h, .tup [.int _, _], w => w.elim
  | h, .tup [.tup _, _], w => w.elim
  | h, .tup [.lst _, _], w => w.elim
  | h, .tup [.dct, _], w => w.elim
  | h, .tup (.non :: _ :: _ :: _), w => w.elim
  | h, .tup (.bl _ :: _ :: _ :: _), w => w.elim
  | h, .tup (.int _ :: _ :: _ :: _), w => w.elim
  | h, .tup (.tup _ :: _ :: _ :: _), w => w.elim
  | h, .tup (.lst _ :: _ :: _ :: _), w => w.elim
  | h, .tup (.dct :: _ :: _ :: _), w => w.elim
  | h, .non, w => w.elim
  | h, .bl _, w => w.elim
  | h, .int _, w => w.elim
  | h, .str _, w => w.elim
  | h, .lst _, w => w.elim
  | h, .dct, w => w.elim
/-- what the law counts of what stands behind the word -/
theorem wf_tail {h : Nat} {wd : Str} {ds : List D} (w : Wf (h + 1) (.tup (.str wd :: ds))) (n : wd ≠ "made") : (∀ p ∈ ds, p.isT = false ∨ Wf h p) ∧ (ds.map (tv h)).sum = ((innD (.tup (.str wd :: ds))).map (sg h)).sum := by
  match ds, w with
  | [], w => exact ⟨(fun p hp => nomatch hp), rfl⟩
  | [a], w =>
    have w : (wd = "bound" ∧ a.isT = false) ∨ (wd = "not" ∧ Wf h a) := w
    have ei : innD (.tup [.str wd, a]) = if wd = "bound" then [] else [a] := rfl
    rcases w with ⟨e, wa⟩ | ⟨e, wa⟩
    · refine ⟨fun p hp => by rw [List.mem_singleton.mp hp]; exact .inl wa, ?_⟩
      rw [ei, if_pos e, List.map_singleton, tv_no wa]
      rfl
    · refine ⟨fun p hp => by rw [List.mem_singleton.mp hp]; exact .inr wa, ?_⟩
      rw [ei, if_neg (by rw [e]; decide +kernel), List.map_singleton, tv_wf wa]
      rfl
  | [a, b], w =>
    have w : (wd = "name" ∧ a.isT = false ∧ b.isT = false) ∨ (wd = "made" ∧ a.isT = false ∧ ∃ ps, b = .tup ps ∧ ∀ p ∈ ps, Wf h p) ∨ ((wd = "same" ∨ wd = "and" ∨ wd = "or" ∨ wd = "so") ∧ Wf h a ∧ Wf h b) ∨ ((wd = "all" ∨ wd = "some") ∧ a.isT = false ∧ Wf h b) := w
    have ei : innD (.tup [.str wd, a, b]) = if wd = "name" then [] else if wd = "made" then (match b with | .tup ps => ps | _ => []) else if wd = "all" ∨ wd = "some" then [b] else [a, b] := rfl
    have two : ∀ {Z : D → Prop}, Z a → Z b → ∀ p ∈ [a, b], Z p := fun {Z} x y p hp => by
      rcases List.mem_cons.mp hp with rfl | hp
      · exact x
      · rw [List.mem_singleton.mp hp]
        exact y
    have su : ([a, b].map (tv h)).sum = tv h a + tv h b := by simp
    rcases w with ⟨e, wa, wb⟩ | ⟨e, _⟩ | ⟨e, wa, wb⟩ | ⟨e, wa, wb⟩
    · refine ⟨two (Z := fun p => p.isT = false ∨ Wf h p) (.inl wa) (.inl wb), ?_⟩
      rw [su, ei, if_pos e, tv_no wa, tv_no wb]
      rfl
    · exact absurd e n
    · refine ⟨two (Z := fun p => p.isT = false ∨ Wf h p) (.inr wa) (.inr wb), ?_⟩
      rw [su, ei, if_neg (by rcases e with e | e | e | e <;> (rw [e]; decide +kernel)), if_neg n, if_neg (by rcases e with e | e | e | e <;> (rw [e]; decide +kernel)), tv_wf wa, tv_wf wb]
      simp
    · refine ⟨two (Z := fun p => p.isT = false ∨ Wf h p) (.inl wa) (.inr wb), ?_⟩
      rw [su, ei, if_neg (by rcases e with e | e <;> (rw [e]; decide +kernel)), if_neg n, if_pos e, tv_no wa, tv_wf wb]
      simp
  | _ :: _ :: _ :: _, w => exact w.elim
def spCt (h : Nat) : Sp := fun vs H Q _ => ∃ (v : V) (t : D), vs = [v] ∧ DS [] H v t ∧ dh h t ∧ ∀ H', Same H H' → Q (.int (cnt h t : Nat)) H'
def spLs (h : Nat) : Sp := fun vs H Q _ => ∃ (v : V) (t : D), vs = [v] ∧ DS [] H v t ∧ dh h t ∧ (t.isT = false ∨ Wf h t) ∧ ∀ H', Same H H' → Q (.int (tv h t : Nat)) H'
abbrev sCt : Stmt := top 56
abbrev nCt : List Str := ["_law_thing", "_law_one"]
theorem scCt : FnScope nCt ["_law_thing"] (defScope sCt) := ⟨rfl, rfl, rfl, by decide +kernel, rfl, by decide +kernel, by decide +kernel⟩
abbrev sLs : Stmt := top 60
abbrev nLs : List Str := ["_law_thing", "_law_part"]
theorem scLs : FnScope nLs ["_law_thing"] (defScope sLs) := ⟨rfl, rfl, rfl, by decide +kernel, rfl, by decide +kernel, by decide +kernel⟩
theorem sum_ints (l : List Nat) : (l.map fun (n : Nat) => (n : Int)).sum = ((l.sum : Nat) : Int) := by
  induction l with
  | nil => rfl
  | cons a l ih =>
    rw [List.map_cons, List.sum_cons, List.sum_cons, ih]
    omega
section
variable {P : Program} {w : World} {K : PySem.W.Frag} {mg : Str → Option Value} {base : Heap} {f : Addr} {fd : FuncData}
theorem ok_ct (F : Fun K "_law_count" "_law_count" sCt f fd) (b : Binds K fd ["_law_thing"] []) (m : mg "_law_count" = some (.ref f)) (X : TxQ mg) :
    ∀ h, FnOk P w K mg base CX0 (1 + h) f fd ["_law_thing"] (spCt h)
  | 0 => by
    refine F.ok scCt (fun vs H Q E h => ?_) (fun cdv A0 outer s H vs Q E hr h => ?_)
    · obtain ⟨v, t, rfl, _⟩ := h
      rfl
    · obtain ⟨v, t, rfl, _, z, _⟩ := h
      exact z.elim
  | h + 1 => by
    have IH := ok_ct F b m X h
    rw [show 1 + (h + 1) = (1 + h) + 1 by omega]
    refine F.ok scCt (fun vs H Q E h => ?_) (fun cdv A0 outer s H vs Q E hr hq => ?_)
    · obtain ⟨v, t, rfl, _⟩ := h
      rfl
    obtain ⟨v, t, rfl, hd, hh, kq⟩ := hq
    refine ⟨_, /-TC-/(pss_cons (ps_if (pt_val (pe_callB call_isi (by rfl) X.isi GN.boot_isi (pa_cons (pv 0) (pa_cons (pe_bltn (v := .ty "tuple") rfl X.tup boot_tupT rfl) pa_nil)))) (pss_one
        (ps_ret (pe_op op_add pe_int (pe_callB (cr_sum rfl) (by rfl) X.sum boot_sum (pa_cons (pe_lc (own := [("_law_one", 1)]) (g := gName 1) (tt := tYes) rfl scCt.nd (pi_tup (pv 0)) (blkOk_by (N := nCt) (sc := defScope sCt) (by decide +kernel)) (fun _ _ _ _ _ => pg_name (i := 1) scCt.nd rfl (Or.inl rfl)) (fun _ _ _ _ _ => pts_nil) (fun _ _ _ _ _ => (pe_call IH (hr.mono (by omega)) rfl m F.kp b .nil pass0 (pa_cons (pv 1) pa_nil)))) pa_nil))))) pss_nil)
      (pss_one
        (ps_ret pe_int)))/-TCE-/, ?_⟩
    obtain ⟨tt, ty, kt, _⟩ := ty_of (K := K) hd
    refine ⟨_, rfl, v, V.ty "tuple", _, _, t.isT, rfl, .ty "tuple", ty, kt, _, rfl, ?_⟩
    cases hd with
    | @tup va vs ds nv hv hl =>
      show (if true = true then _ else _)
      rw [if_pos rfl]
      have lvs := hl.length
      refine ⟨_, rfl, va, rfl, ⟨_, SqT.of hv⟩, fun Dd hDd => ?_⟩
      refine lc_tup (xs := vs) (fun j H' => Same H H' ∧ H' Dd = some (.lst ((ds.take j).map fun p => V.int (cnt h p : Nat)))) ⟨KD.Same.upd hDd, by rw [upd_same]; rfl⟩ (fun j H' _ q => SqT.of (q.1 _ _ hv)) (fun j y H' hy q => ?_) (fun H' q => ?_)
      · obtain ⟨s4, h4⟩ := q
        obtain ⟨p, hp, hP⟩ := hl.get hy
        refine ⟨rfl, ?_⟩
        unfold tYes
        simp only [if_true]
        refine ⟨_, rfl, y, p, rfl, hP.mono (Kp.same s4), hh.2 p (List.mem_of_getElem? hp), fun H5 s5 => ?_⟩
        have jl : j < vs.length := (List.getElem?_eq_some_iff.mp hy).1
        refine ⟨_, s5 _ _ h4, ?_, fun xx u hx => ?_, ?_⟩
        · rw [List.length_map, List.length_take]
          have := hh.1
          exact Nat.lt_of_le_of_lt (show _ ≤ 1000 by omega) (by decide)
        · rw [upd_ne (ne_of_none hx hDd)]
          exact s5 _ _ (s4 _ _ hx)
        · rw [upd_same, List.take_succ, hp, List.map_append]
          rfl
      · obtain ⟨s4, h4⟩ := q
        rw [lvs, List.take_length] at h4
        refine ⟨Dd, (ds.map (cnt h)).map (fun (n : Nat) => (n : Int)), rfl, SqL.of (by rw [h4, List.map_map, List.map_map]; rfl), _, _, rfl, rfl, ?_⟩
        rw [sum_ints]
        have z := kq H' s4
        rw [show ((cnt (h + 1) (.tup ds) : Nat) : Int) = (1 : Int) + (((ds.map (cnt h)).sum : Nat) : Int) by
          show ((1 + (ds.map (cnt h)).sum : Nat) : Int) = _
          omega] at z
        exact z
    | _ =>
      show (if false = true then _ else _)
      rw [if_neg (by decide)]
      exact kq H fun _ _ e => e
theorem ok_ls (F : Fun K "_law_signs" "_law_signs" sLs f fd) (b : Binds K fd ["_law_thing"] []) (m : mg "_law_signs" = some (.ref f)) (X : TxQ mg) :
    ∀ h, FnOk P w K mg base CX0 (1 + h) f fd ["_law_thing"] (spLs h)
  | 0 => by
    refine F.ok scLs (fun vs H Q E h => ?_) (fun cdv A0 outer s H vs Q E hr h => ?_)
    · obtain ⟨v, t, rfl, _⟩ := h
      rfl
    · obtain ⟨v, t, rfl, _, z, _⟩ := h
      exact z.elim
  | h + 1 => by
    have IH := ok_ls F b m X h
    rw [show 1 + (h + 1) = (1 + h) + 1 by omega]
    refine F.ok scLs (fun vs H Q E h => ?_) (fun cdv A0 outer s H vs Q E hr hq => ?_)
    · obtain ⟨v, t, rfl, _⟩ := h
      rfl
    obtain ⟨v, t, rfl, hd, hh, hw, kq⟩ := hq
    refine ⟨_, /-TL-/(pss_cons (ps_if (pt_not (pt_val (pe_callB call_isi (by rfl) X.isi GN.boot_isi (pa_cons (pv 0) (pa_cons (pe_bltn (v := .ty "tuple") rfl X.tup boot_tupT rfl) pa_nil))))) (pss_one
        (ps_ret pe_int)) pss_nil)
      (pss_cons (ps_if (pt_cmpR op_eq (pe_ix ix_tup (pv 0) pe_int (fun _ _ => rfl)) pe_str (nomark _)) (pss_one
        (ps_ret (pe_op op_add pe_int (pe_callB (cr_sum rfl) (by rfl) X.sum boot_sum (pa_cons (pe_lc (own := [("_law_part", 1)]) (g := gName 1) (tt := tYes) rfl scLs.nd (pi_tup (pe_ix ix_tup (pv 0) pe_int (fun _ _ => rfl))) (blkOk_by (N := nLs) (sc := defScope sLs) (by decide +kernel)) (fun _ _ _ _ _ => pg_name (i := 1) scLs.nd rfl (Or.inl rfl)) (fun _ _ _ _ _ => pts_nil) (fun _ _ _ _ _ => (pe_call IH (hr.mono (by omega)) rfl m F.kp b .nil pass0 (pa_cons (pv 1) pa_nil)))) pa_nil))))) pss_nil)
      (pss_one
        (ps_ret (pe_op op_add pe_int (pe_callB (cr_sum rfl) (by rfl) X.sum boot_sum (pa_cons (pe_lc (own := [("_law_part", 1)]) (g := gName 1) (tt := tYes) rfl scLs.nd (pi_tup (pe_slice sl_tupA (pv 0) (po_some pe_int) po_none)) (blkOk_by (N := nLs) (sc := defScope sLs) (by decide +kernel)) (fun _ _ _ _ _ => pg_name (i := 1) scLs.nd rfl (Or.inl rfl)) (fun _ _ _ _ _ => pts_nil) (fun _ _ _ _ _ => (pe_call IH (hr.mono (by omega)) rfl m F.kp b .nil pass0 (pa_cons (pv 1) pa_nil)))) pa_nil)))))))/-TLE-/, ?_⟩
    obtain ⟨tt, ty, kt, _⟩ := ty_of (K := K) hd
    refine ⟨_, rfl, v, V.ty "tuple", _, _, t.isT, rfl, .ty "tuple", ty, kt, _, rfl, ?_⟩
    cases hd with
    | @tup va vs ds nv hv hl =>
      show (if (!true) = true then _ else _)
      rw [if_neg (by decide)]
      have hw : Wf (h + 1) (.tup ds) := hw.elim (fun z => nomatch z) id
      obtain ⟨wd, ds, e, ld⟩ := wf_str hw
      injection e with e
      subst e
      have ev : tv (h + 1) (.tup (.str wd :: ds)) = 1 + ((innD (.tup (.str wd :: ds))).map (sg h)).sum := tv_wf hw
      cases hl with
      | @cons v0 vs _ _ hD0 hl =>
      obtain rfl : v0 = .str wd := by
        cases hD0
        rfl
      have lvs := hl.length
      by_cases wm : wd = "made"
      case pos =>
        refine ⟨_, rfl, _, _, _, _, rfl, rfl, SqT.of hv, atI_nat (j := 0) rfl, rfl, true, congrArg V.bl (dT wm), iteT ?_⟩
        obtain ⟨a, ps, rfl, hps⟩ : ∃ a ps, ds = [a, .tup ps] ∧ ∀ p ∈ ps, Wf h p := by
          match ds, hw with
          | [], w =>
            have w : wd = "no" := w
            rw [w] at wm
            exact absurd wm (by decide +kernel)
          | [a], w =>
            have w : (wd = "bound" ∧ a.isT = false) ∨ (wd = "not" ∧ Wf h a) := w
            rw [wm] at w
            rcases w with ⟨e, _⟩ | ⟨e, _⟩ <;> exact absurd e (by decide +kernel)
          | [a, b], w =>
            have w : (wd = "name" ∧ a.isT = false ∧ b.isT = false) ∨ (wd = "made" ∧ a.isT = false ∧ ∃ ps, b = .tup ps ∧ ∀ p ∈ ps, Wf h p) ∨ ((wd = "same" ∨ wd = "and" ∨ wd = "or" ∨ wd = "so") ∧ Wf h a ∧ Wf h b) ∨ ((wd = "all" ∨ wd = "some") ∧ a.isT = false ∧ Wf h b) := w
            rw [wm] at w
            rcases w with ⟨e, _⟩ | ⟨_, _, ps, rfl, q⟩ | ⟨e, _⟩ | ⟨e, _⟩
            · exact absurd e (by decide +kernel)
            · exact ⟨a, ps, rfl, q⟩
            · exact absurd e (by decide +kernel)
            · exact absurd e (by decide +kernel)
          | _ :: _ :: _ :: _, w => exact w.elim
        cases hl with
        | @cons v1 _ _ _ hD1 hl =>
        cases hl with
        | @cons v2 _ _ _ hD2 hl =>
        cases hl
        have ei : innD (.tup [.str wd, a, .tup ps]) = ps := by
          show (if wd = "name" then [] else if wd = "made" then ps else _) = _
          rw [if_neg (by rw [wm]; decide +kernel), if_pos wm]
        cases hD2 with
        | @tup ua us _ nu hu hul =>
          have lus := hul.length
          refine ⟨_, rfl, _, _, _, _, rfl, rfl, SqT.of hv, atI_nat (j := 2) rfl, ua, rfl, ⟨_, SqT.of hu⟩, fun Dd hDd => ?_⟩
          refine lc_tup (xs := us) (fun j H' => Same H H' ∧ H' Dd = some (.lst ((ps.take j).map fun p => V.int (tv h p : Nat)))) ⟨KD.Same.upd hDd, by rw [upd_same]; rfl⟩ (fun j H' _ q => SqT.of (q.1 _ _ hu)) (fun j y H' hy q => ?_) (fun H' q => ?_)
          · obtain ⟨s4, h4⟩ := q
            obtain ⟨p, hp, hP⟩ := hul.get hy
            refine ⟨rfl, ?_⟩
            unfold tYes
            simp only [if_true]
            refine ⟨_, rfl, y, p, rfl, hP.mono (Kp.same s4), dh_in (hh.2 _ (by simp)) p (List.mem_of_getElem? hp), .inr (hps p (List.mem_of_getElem? hp)), fun H5 s5 => ?_⟩
            have jl : j < us.length := (List.getElem?_eq_some_iff.mp hy).1
            refine ⟨_, s5 _ _ h4, ?_, fun xx u hx => ?_, ?_⟩
            · rw [List.length_map, List.length_take]
              have := dh_len (hh.2 (.tup ps) (by simp))
              exact Nat.lt_of_le_of_lt (show _ ≤ 1000 by omega) (by decide)
            · rw [upd_ne (ne_of_none hx hDd)]
              exact s5 _ _ (s4 _ _ hx)
            · rw [upd_same, List.take_succ, hp, List.map_append]
              rfl
          · obtain ⟨s4, h4⟩ := q
            rw [lus, List.take_length] at h4
            refine ⟨Dd, (ps.map (tv h)).map (fun (n : Nat) => (n : Int)), rfl, SqL.of (by rw [h4, List.map_map, List.map_map]; rfl), _, _, rfl, rfl, ?_⟩
            rw [sum_ints]
            have z := kq H' s4
            have et : ps.map (tv h) = ps.map (sg h) := List.map_congr_left fun p hp => tv_wf (hps p hp)
            rw [ev, ei, ← et, show ((1 + (ps.map (tv h)).sum : Nat) : Int) = (1 : Int) + (((ps.map (tv h)).sum : Nat) : Int) by omega] at z
            exact z
      obtain ⟨hp1, hp2⟩ := wf_tail hw wm
      refine ⟨_, rfl, _, _, _, _, rfl, rfl, SqT.of hv, atI_nat (j := 0) rfl, rfl, false, congrArg V.bl (dF wm), iteF ?_⟩
      refine ⟨_, rfl, 1, rfl, _, _, rfl, SqT.of hv, fun z => absurd z.1 (cut1 _ _).1, fun _ p3 hp3 => ?_⟩
      rw [(cut1 _ _).2]
      have s3 : Same H (upd H p3 (.tup vs)) := KD.Same.upd hp3
      have h3 : upd H p3 (.tup vs) p3 = some (.tup vs) := upd_same
      generalize upd H p3 (.tup vs) = H3 at s3 h3 ⊢
      refine ⟨p3, rfl, ⟨_, SqT.of h3⟩, fun Dd hDd => ?_⟩
      refine lc_tup (xs := vs) (fun j H' => Same H3 H' ∧ H' Dd = some (.lst ((ds.take j).map fun p => V.int (tv h p : Nat)))) ⟨KD.Same.upd hDd, by rw [upd_same]; rfl⟩ (fun j H' _ q => SqT.of (q.1 _ _ h3)) (fun j y H' hy q => ?_) (fun H' q => ?_)
      · obtain ⟨s4, h4⟩ := q
        obtain ⟨p, hp, hP⟩ := hl.get hy
        refine ⟨rfl, ?_⟩
        unfold tYes
        simp only [if_true]
        have s04 := s3.trans s4
        refine ⟨_, rfl, y, p, rfl, hP.mono (Kp.same s04), hh.2 p (List.mem_cons_of_mem _ (List.mem_of_getElem? hp)), hp1 p (List.mem_of_getElem? hp), fun H5 s5 => ?_⟩
        have jl : j < vs.length := (List.getElem?_eq_some_iff.mp hy).1
        refine ⟨_, s5 _ _ h4, ?_, fun xx u hx => ?_, ?_⟩
        · rw [List.length_map, List.length_take]
          exact Nat.lt_of_le_of_lt (show _ ≤ 1000 by omega) (by decide)
        · rw [upd_ne (ne_of_none hx hDd)]
          exact s5 _ _ (s4 _ _ hx)
        · rw [upd_same, List.take_succ, hp, List.map_append]
          rfl
      · obtain ⟨s4, h4⟩ := q
        rw [lvs, List.take_length] at h4
        refine ⟨Dd, (ds.map (tv h)).map (fun (n : Nat) => (n : Int)), rfl, SqL.of (by rw [h4, List.map_map, List.map_map]; rfl), _, _, rfl, rfl, ?_⟩
        rw [sum_ints]
        have z := kq H' (s3.trans s4)
        rw [ev, ← hp2, show ((1 + (ds.map (tv h)).sum : Nat) : Int) = (1 : Int) + (((ds.map (tv h)).sum : Nat) : Int) by omega] at z
        exact z
    | _ =>
      show (if (!false) = true then _ else _)
      rw [if_pos (by decide)]
      exact kq H fun _ _ e => e
end
end Q3

/-! LW4: _law_at, _law_replaced. -/
namespace Q3
open PySem PySem.Spec PyProof.Rows L2 GenW GxR NdefX GX
open KD (top)
/-- where the search stands behind c places: n was left to go, n' is; k were found -/
def AtO (n : Int) (c k : Nat) (n' : Int) : Prop := (n < 0 → n' < 0 ∧ k = 0) ∧ (0 ≤ n → n < c → n' < 0 ∧ k = 1) ∧ ((c : Int) ≤ n → n' = n - c ∧ k = 0)
theorem AtO.trans {n m p : Int} {c c2 k k2 : Nat} (a : AtO n c k m) (b : AtO m c2 k2 p) : AtO n (c + c2) (k + k2) p := by
  obtain ⟨a1, a2, a3⟩ := a
  obtain ⟨b1, b2, b3⟩ := b
  refine ⟨fun h => ?_, fun h h2 => ?_, fun h => ?_⟩
  · obtain ⟨x, y⟩ := a1 h
    obtain ⟨z, w⟩ := b1 x
    omega
  · by_cases q : n < c
    · obtain ⟨x, y⟩ := a2 h q
      obtain ⟨z, w⟩ := b1 x
      omega
    · obtain ⟨x, y⟩ := a3 (by omega)
      obtain ⟨z, w⟩ := b2 (by omega) (by omega)
      omega
  · obtain ⟨x, y⟩ := a3 (by omega)
    obtain ⟨z, w⟩ := b3 (by omega)
    omega
theorem AtO.one {n : Int} (h : n ≠ 0) : AtO n 1 0 (n - 1) := ⟨fun _ => by omega, fun _ _ => by omega, fun _ => by omega⟩
theorem AtO.le {n : Int} {c k : Nat} {n' : Int} (a : AtO n c k n') : k ≤ 1 := by
  obtain ⟨a1, a2, a3⟩ := a
  by_cases h : n < 0
  · have := (a1 h).2
    omega
  · by_cases q : n < c
    · have := (a2 (by omega) q).2
      omega
    · have := (a3 (by omega)).2
      omega
theorem cnt_pos : ∀ {h : Nat} {t : D}, dh h t → 1 ≤ cnt h t
  | 0, _, z => z.elim
  | h + 1, .tup xs, _ => by
    show 1 ≤ 1 + _
    omega
  | h + 1, .non, _ => Nat.le_refl 1
  | h + 1, .bl _, _ => Nat.le_refl 1
  | h + 1, .int _, _ => Nat.le_refl 1
  | h + 1, .str _, _ => Nat.le_refl 1
  | h + 1, .lst _, _ => Nat.le_refl 1
  | h + 1, .dct, _ => Nat.le_refl 1
def spAt (h : Nat) : Sp := fun vs H Q _ => ∃ (M : List Addr) (v : V) (l : Addr) (n : Int) (t : D), vs = [v, .ref l] ∧ l ∈ M ∧ H l = some (.lst [.int n]) ∧ DS M H v t ∧ dh h t ∧ ∀ (q : Addr) (us : List V) (ds : List D) (n' : Int) H', Kp [l] H H' → H' l = some (.lst [.int n']) → q ∉ [l] → H' q = some (.lst us) → DSL M H' us ds → (∀ e ∈ ds, dh h e) → AtO n (cnt h t) ds.length n' → Q (.ref q) H'
def spRp (hb h : Nat) : Sp := fun vs H Q _ => ∃ (M : List Addr) (v u : V) (l : Addr) (n : Int) (t b : D), vs = [v, .ref l, u] ∧ l ∈ M ∧ (∀ x ∈ M, H x ≠ none) ∧ H l = some (.lst [.int n]) ∧ DS M H v t ∧ dh h t ∧ DS M H u b ∧ dh hb b ∧ ∀ (v' : V) (t' : D) (n' : Int) H', Kp [l] H H' → H' l = some (.lst [.int n']) → DS M H' v' t' → dh (h + hb) t' → Q v' H'
abbrev sAt : Stmt := top 57
abbrev nAt : List Str := ["_law_thing", "_law_left", "_law_found", "_law_one"]
theorem scAt : FnScope nAt ["_law_thing", "_law_left"] (defScope sAt) := ⟨rfl, rfl, rfl, by decide +kernel, rfl, by decide +kernel, by decide +kernel⟩
abbrev sRp : Stmt := top 58
abbrev nRp : List Str := ["_law_thing", "_law_left", "_law_by_here", "_law_one"]
abbrev pRp : List Str := ["_law_thing", "_law_left", "_law_by_here"]
theorem scRp : FnScope nRp pRp (defScope sRp) := ⟨rfl, rfl, rfl, by decide +kernel, rfl, by decide +kernel, by decide +kernel⟩
theorem one_kp {l : Addr} {H H' : Hp} {n n' : Int} (h : H l = some (.lst [.int n])) (k : Kp [l] H H') (h' : H' l = some (.lst [.int n'])) {M : List Addr} (hM : ∀ x ∈ M, H x ≠ none) : ∀ x ∈ M, H' x ≠ none := fun x hx z => by
  by_cases e : x = l
  · rw [e, h'] at z
    exact nomatch z
  · cases hh : H x with
    | none => exact hM x hx hh
    | some o =>
      rw [k x o (by simpa using e) hh] at z
      exact nomatch z
section
variable {P : Program} {w : World} {K : PySem.W.Frag} {mg : Str → Option Value} {base : Heap} {f : Addr} {fd : FuncData}
theorem ok_at (F : Fun K "_law_at" "_law_at" sAt f fd) (b : Binds K fd ["_law_thing", "_law_left"] []) (m : mg "_law_at" = some (.ref f)) (X : TxQ mg) :
    ∀ h, FnOk P w K mg base CX0 (1 + h) f fd ["_law_thing", "_law_left"] (spAt h)
  | 0 => by
    refine F.ok scAt (fun vs H Q E h => ?_) (fun cdv A0 outer s H vs Q E hr h => ?_)
    · obtain ⟨M, v, l, n, t, rfl, _⟩ := h
      rfl
    · obtain ⟨M, v, l, n, t, rfl, _, _, _, z, _⟩ := h
      exact z.elim
  | h + 1 => by
    have IH := ok_at F b m X h
    rw [show 1 + (h + 1) = (1 + h) + 1 by omega]
    refine F.ok scAt (fun vs H Q E h => ?_) (fun cdv A0 outer s H vs Q E hr hq => ?_)
    · obtain ⟨M, v, l, n, t, rfl, _⟩ := h
      rfl
    obtain ⟨M, v, l, n, t, rfl, hlM, hl, hd, hh, kq⟩ := hq
    have sl : ∀ x ∈ [l], x ∈ M := fun x hx => by rw [List.mem_singleton.mp hx]; exact hlM
    refine ⟨_, /-TA-/(pss_cons (ps_if (pt_cmpR op_eq (pe_ix ix_list (pv 1) pe_int (fun _ _ => rfl)) pe_int (nomark _)) (pss_cons (ps_asg (pe_un un_neg pe_int) (pg_sub (pv 1) pe_int set_list))
      (pss_one
        (ps_ret (pe_lst (pa_cons (pv 0) pa_nil))))) pss_nil)
      (pss_cons (ps_asg (pe_op op_sub (pe_ix ix_list (pv 1) pe_int (fun _ _ => rfl)) pe_int) (pg_sub (pv 1) pe_int set_list))
      (pss_cons (ps_set (i := 2) scAt.nd rfl (Or.inl rfl) (pe_lst pa_nil))
      (pss_cons (ps_if (pt_val (pe_callB call_isi (by rfl) X.isi GN.boot_isi (pa_cons (pv 0) (pa_cons (pe_bltn (v := .ty "tuple") rfl X.tup boot_tupT rfl) pa_nil)))) (pss_one
        (ps_for PassesOwn.never rfl (pi_tup (pv 0)) (pg_name (i := 3) scAt.nd rfl (Or.inl rfl)) (pss_one
        (ps_set (i := 2) scAt.nd rfl (Or.inl rfl) (pe_op op_cat (pv 2) (pe_call IH (hr.mono (by omega)) rfl m F.kp b .nil pass0 (pa_cons (pv 3) (pa_cons (pv 1) pa_nil)))))))) pss_nil)
      (pss_one
        (ps_ret (pv 2)))))))/-TAE-/, ?_⟩
    have hm : ∀ x ∈ [l], H x ≠ none := fun x hx z => by
      rw [List.mem_singleton.mp hx, hl] at z
      exact nomatch z
    have nl : ∀ {q : Addr} {H' : Hp} {xs : List V}, H' l = some (.lst xs) → H' q = none → q ∉ [l] := fun {q H' xs} e z w => by
      rw [List.mem_singleton.mp w, e] at z
      exact nomatch z
    by_cases n0 : n = 0
    case pos =>
      refine ⟨_, rfl, _, _, _, _, rfl, rfl, SqL.of hl, atI_nat (j := 0) rfl, rfl, true, congrArg V.bl (decide_eq_true (by rw [n0])), iteT ?_⟩
      refine ⟨_, rfl, _, rfl, _, _, _, 0, rfl, rfl, hl, rfl, ?_⟩
      have k1 : Kp [l] H (upd H l (.lst [.int (-1)])) := Kp.upd (by simp)
      have h1 : upd H l (.lst [.int (-1)]) l = some (.lst [.int (-1)]) := upd_same
      show tRet (tLst (tCons (tVar 0) tNil)) _ _ (upd H l (.lst [.int (-1)]))
      generalize upd H l (.lst [.int (-1)]) = H1 at k1 h1 ⊢
      refine ⟨_, rfl, by show 1 ≤ sizeLine; decide, fun q hq => ?_⟩
      have k2 : Kp [l] H1 (upd H1 q (.lst [v])) := Kp.new hq
      have nq := nl h1 hq
      refine kq q [v] [t] (-1) _ (k1.trans k2) (by rw [upd_ne (by simpa using Ne.symm (by simpa using nq))]; exact h1) nq upd_same (.cons (hd.mono ((k1.trans k2).sub sl)) .nil) (fun e he => by rw [List.mem_singleton.mp he]; exact hh) ?_
      have := cnt_pos hh
      exact ⟨fun z => by omega, fun _ _ => ⟨by decide, rfl⟩, fun z => by omega⟩
    refine ⟨_, rfl, _, _, _, _, rfl, rfl, SqL.of hl, atI_nat (j := 0) rfl, rfl, false, congrArg V.bl (decide_eq_false (fun z => n0 (by injection z))), iteF ?_⟩
    refine ⟨_, rfl, _, _, _, _, rfl, rfl, SqL.of hl, atI_nat (j := 0) rfl, _, _, rfl, rfl, _, rfl, _, _, _, 0, rfl, rfl, hl, rfl, ?_⟩
    have k1 : Kp [l] H (upd H l (.lst [.int (n - 1)])) := Kp.upd (by simp)
    have h1 : upd H l (.lst [.int (n - 1)]) l = some (.lst [.int (n - 1)]) := upd_same
    refine (show ∀ {Z : Hp → Prop}, Z (upd H l (.lst [.int (n - 1)])) → Z (upd H l (.lst (List.set [V.int n] 0 (V.int (n - 1))))) from fun z => z) ?_
    generalize upd H l (.lst [.int (n - 1)]) = H1 at k1 h1 ⊢
    refine ⟨Nat.zero_le _, fun q hq => ?_⟩
    have k2 : Kp [l] H1 (upd H1 q (.lst [])) := Kp.new hq
    have nq := nl h1 hq
    have h2 : upd H1 q (.lst []) l = some (.lst [.int (n - 1)]) := by rw [upd_ne (by simpa using Ne.symm (by simpa using nq))]; exact h1
    have hq2 : upd H1 q (.lst []) q = some (.lst []) := upd_same
    generalize upd H1 q (.lst []) = H2 at k2 h2 hq2 ⊢
    have k02 := k1.trans k2
    have hd2 := hd.mono (k02.sub sl)
    obtain ⟨tt, ty, kt, _⟩ := ty_of (K := K) hd2
    refine ⟨_, rfl, v, V.ty "tuple", _, _, t.isT, rfl, .ty "tuple", ty, kt, _, rfl, ?_⟩
    cases hd2 with
    | @tup va vs ds nv hv hvl =>
      show (if true = true then _ else _)
      rw [if_pos rfl]
      have lvs := hvl.length
      refine ⟨_, rfl, va, rfl, ⟨_, SqT.of hv⟩, for_tup (xs := vs) (fun i σ' H' => ∃ (qi : Addr) (us : List V) (es : List D) (m : Int) (o3 : Option V), σ' = [some (V.ref va), some (V.ref l), some (V.ref qi), o3] ∧ Kp [l] H2 H' ∧ H' l = some (.lst [.int m]) ∧ qi ∉ [l] ∧ H' qi = some (.lst us) ∧ DSL M H' us es ∧ (∀ e ∈ es, dh (h + 1) e) ∧ AtO n (1 + ((ds.take i).map (cnt h)).sum) es.length m)
        ⟨q, [], [], n - 1, _, rfl, Kp.refl _, h2, nq, hq2, .nil, (fun e he => nomatch he), AtO.one n0⟩ (fun i σ' H' _ q' => ?_) (fun i x σ' H3 hx q' => ?_) (fun σ' H3 q' => ?_)⟩
      · obtain ⟨_, _, _, _, _, _, k, _⟩ := q'
        exact SqT.of (k.sub sl _ _ nv hv)
      · obtain ⟨qi, us, es, m3, o3, rfl, k3, h3, nqi, hqi, hes, hde, ao⟩ := q'
        obtain ⟨p, hp, hP⟩ := hvl.get hx
        refine ⟨_, rfl, _, rfl, _, rfl, M, x, l, m3, p, rfl, hlM, h3, hP.mono (k3.sub sl), hh.2 p (List.mem_of_getElem? hp), fun q2 us2 es2 m2 H4 k4 h4 nq2 hq2 hes2 hde2 ao2 => ?_⟩
        have aoT := ao.trans ao2
        have le1 := aoT.le
        have lu := hes.length
        have lu2 := hes2.length
        refine ⟨_, _, _, _, rfl, rfl, k4 _ _ nqi hqi, hq2, Nat.le_trans (show us.length + us2.length ≤ 1000 by omega) (by decide), fun q3 hq3 => ?_⟩
        have k5 : Kp [l] H4 (upd H4 q3 (.lst (us ++ us2))) := Kp.new hq3
        have nq3 := nl h4 hq3
        refine ⟨q3, us ++ us2, es ++ es2, m2, _, rfl, (k3.trans k4).trans k5, ?_, nq3, upd_same, ?_, fun e he => ?_, ?_⟩
        · rw [upd_ne (by simpa using Ne.symm (by simpa using nq3))]
          exact h4
        · exact DSL.app (hes.mono ((k4.trans k5).sub sl)) (hes2.mono (k5.sub sl))
        · rcases List.mem_append.mp he with he | he
          · exact hde e he
          · exact dh_le (hde2 e he) (Nat.le_succ h)
        · rw [List.take_succ, hp, List.map_append, List.sum_append, List.length_append, ← Nat.add_assoc]
          simpa using aoT
      · obtain ⟨qi, us, es, m3, o3, rfl, k3, h3, nqi, hqi, hes, hde, ao⟩ := q'
        rw [lvs, List.take_length] at ao
        exact ⟨_, rfl, kq qi us es m3 H3 (k02.trans k3) h3 nqi hqi hes hde ao⟩
    | _ =>
      show (if false = true then _ else _)
      rw [if_neg (by decide)]
      exact ⟨_, rfl, kq q [] [] (n - 1) H2 k02 h2 nq hq2 .nil (fun e he => nomatch he) (AtO.one n0)⟩
theorem ok_rp (hb : Nat) (F : Fun K "_law_replaced" "_law_replaced" sRp f fd) (b : Binds K fd pRp []) (m : mg "_law_replaced" = some (.ref f)) (X : TxQ mg) :
    ∀ h, FnOk P w K mg base CX0 (1 + h) f fd pRp (spRp hb h)
  | 0 => by
    refine F.ok scRp (fun vs H Q E h => ?_) (fun cdv A0 outer s H vs Q E hr h => ?_)
    · obtain ⟨M, v, u, l, n, t, b, rfl, _⟩ := h
      rfl
    · obtain ⟨M, v, u, l, n, t, b, rfl, _, _, _, _, z, _⟩ := h
      exact z.elim
  | h + 1 => by
    have IH := ok_rp hb F b m X h
    rw [show 1 + (h + 1) = (1 + h) + 1 by omega]
    refine F.ok scRp (fun vs H Q E h => ?_) (fun cdv A0 outer s H vs Q E hr hq => ?_)
    · obtain ⟨M, v, u, l, n, t, b, rfl, _⟩ := h
      rfl
    obtain ⟨M, v, u, l, n, t, b', rfl, hlM, hM, hl, hd, hh, hu, hhb, kq⟩ := hq
    refine ⟨_, /-TR-/(pss_cons (ps_if (pt_cmpR op_eq (pe_ix ix_list (pv 1) pe_int (fun _ _ => rfl)) pe_int (nomark _)) (pss_cons (ps_asg (pe_un un_neg pe_int) (pg_sub (pv 1) pe_int set_list))
      (pss_one
        (ps_ret (pv 2)))) pss_nil)
      (pss_cons (ps_asg (pe_op op_sub (pe_ix ix_list (pv 1) pe_int (fun _ _ => rfl)) pe_int) (pg_sub (pv 1) pe_int set_list))
      (pss_cons (ps_if (pt_val (pe_callB call_isi (by rfl) X.isi GN.boot_isi (pa_cons (pv 0) (pa_cons (pe_bltn (v := .ty "tuple") rfl X.tup boot_tupT rfl) pa_nil)))) (pss_one
        (ps_ret (pe_callTy call_tuple_of (by rfl) X.tup boot_tuple (pa_cons (pe_lc (own := [("_law_one", 3)]) (g := gName 3) (tt := tYes) rfl scRp.nd (pi_tup (pv 0)) (blkOk_by (N := nRp) (sc := defScope sRp) (by decide +kernel)) (fun _ _ _ _ _ => pg_name (i := 3) scRp.nd rfl (Or.inl rfl)) (fun _ _ _ _ _ => pts_nil) (fun _ _ _ _ _ => (pe_call IH (hr.mono (by omega)) rfl m F.kp b .nil pass0 (pa_cons (pv 3) (pa_cons (pv 1) (pa_cons (pv 2) pa_nil)))))) pa_nil)))) pss_nil)
      (pss_one
        (ps_ret (pv 0))))))/-TRE-/, ?_⟩
    have nM : ∀ {H' : Hp} {q : Addr}, Kp [l] H H' → (∃ n' : Int, H' l = some (.lst [.int n'])) → H' q = none → q ∉ M := fun {H' q} k e z w => by
      obtain ⟨n', e⟩ := e
      exact one_kp hl k e hM q w z
    have kM : ∀ {H1 H2 : Hp}, Kp [l] H1 H2 → Kp M H1 H2 := fun k => k.sub (by simpa using hlM)
    by_cases n0 : n = 0
    case pos =>
      refine ⟨_, rfl, _, _, _, _, rfl, rfl, SqL.of hl, atI_nat (j := 0) rfl, rfl, true, congrArg V.bl (decide_eq_true (by rw [n0])), iteT ?_⟩
      refine ⟨_, rfl, _, rfl, _, _, _, 0, rfl, rfl, hl, rfl, ?_⟩
      have k1 : Kp [l] H (upd H l (.lst [.int (-1)])) := Kp.upd (by simp)
      exact ⟨_, rfl, kq u b' (-1) _ k1 upd_same (hu.mono (kM k1)) (dh_le hhb (by omega))⟩
    refine ⟨_, rfl, _, _, _, _, rfl, rfl, SqL.of hl, atI_nat (j := 0) rfl, rfl, false, congrArg V.bl (decide_eq_false (fun z => n0 (by injection z))), iteF ?_⟩
    refine ⟨_, rfl, _, _, _, _, rfl, rfl, SqL.of hl, atI_nat (j := 0) rfl, _, _, rfl, rfl, _, rfl, _, _, _, 0, rfl, rfl, hl, rfl, ?_⟩
    have k1 : Kp [l] H (upd H l (.lst [.int (n - 1)])) := Kp.upd (by simp)
    have h1 : upd H l (.lst [.int (n - 1)]) l = some (.lst [.int (n - 1)]) := upd_same
    refine (show ∀ {Z : Hp → Prop}, Z (upd H l (.lst [.int (n - 1)])) → Z (upd H l (.lst (List.set [V.int n] 0 (V.int (n - 1))))) from fun z => z) ?_
    generalize upd H l (.lst [.int (n - 1)]) = H1 at k1 h1 ⊢
    have hd1 := hd.mono (kM k1)
    obtain ⟨tt, ty, kt, _⟩ := ty_of (K := K) hd1
    refine ⟨_, rfl, v, V.ty "tuple", _, _, t.isT, rfl, .ty "tuple", ty, kt, _, rfl, ?_⟩
    cases hd1 with
    | @tup va vs ds nv hv hvl =>
      show (if true = true then _ else _)
      rw [if_pos rfl]
      have lvs := hvl.length
      refine ⟨_, rfl, va, rfl, ⟨_, SqT.of hv⟩, fun Dd hDd => ?_⟩
      have hlD : l ≠ Dd := ne_of_none h1 hDd
      have kD : Kp [l] H1 (upd H1 Dd (.lst [])) := Kp.new hDd
      refine lc_tup (xs := vs) (fun j H' => ∃ (n' : Int) (us : List V) (es : List D), Kp [Dd, l] H1 H' ∧ H' l = some (.lst [.int n']) ∧ H' Dd = some (.lst us) ∧ DSL (Dd :: M) H' us es ∧ us.length = j ∧ ∀ e ∈ es, dh (h + hb) e) ⟨n - 1, [], [], Kp.upd (by simp), by rw [upd_ne hlD]; exact h1, upd_same, .nil, rfl, fun e he => nomatch he⟩ (fun j H' _ q => ?_) (fun j y H' hy q => ?_) (fun H' q => ?_)
      · obtain ⟨_, _, _, k, _⟩ := q
        refine SqT.of (k _ _ ?_ hv)
        simp [ne_of_none hv hDd, show va ≠ l from fun z => nv (by rw [z]; exact hlM)]
      · obtain ⟨n', us, es, k2, h2, hDD, hes, lu, hde⟩ := q
        obtain ⟨p, hp, hP⟩ := hvl.get hy
        have jl : j < vs.length := (List.getElem?_eq_some_iff.mp hy).1
        refine ⟨rfl, ?_⟩
        unfold tYes
        simp only [if_true]
        have k2M : Kp (Dd :: M) H1 H' := k2.sub (fun x hx => by
          simp at hx
          rcases hx with rfl | rfl
          · simp
          · exact List.mem_cons_of_mem _ hlM)
        have hM2 : ∀ x ∈ Dd :: M, H' x ≠ none := fun x hx z => by
          rcases List.mem_cons.mp hx with rfl | hx
          · rw [hDD] at z
            exact nomatch z
          · by_cases e : x = Dd
            · rw [e, hDD] at z
              exact nomatch z
            · by_cases e2 : x = l
              · rw [e2, h2] at z
                exact nomatch z
              · cases hh1 : H1 x with
                | none => exact one_kp hl k1 h1 hM x hx hh1
                | some o =>
                  rw [k2 x o (by simp [e, e2]) hh1] at z
                  exact nomatch z
        have k02 : Kp (Dd :: M) H H' := ((kM k1).sub (fun x hx => List.mem_cons_of_mem _ hx)).trans k2M
        have hDH : H Dd = none := by
          cases hh1 : H Dd with
          | none => rfl
          | some o =>
            rw [k1 _ _ (by simpa using fun e => hlD e.symm) hh1] at hDd
            exact nomatch hDd
        refine ⟨_, rfl, _, rfl, _, rfl, Dd :: M, y, u, l, n', p, b', rfl, List.mem_cons_of_mem _ hlM, hM2, h2, (hP.fresh hDd).mono k2M, hh.2 p (List.mem_of_getElem? hp), (hu.fresh hDH).mono k02, hhb, fun v' t' n2 H3 k3 h3 hv' hdt => ?_⟩
        have hD3 := k3 _ _ (by simpa using fun e => hlD e.symm) hDD
        refine ⟨_, hD3, ?_, n2, us ++ [v'], es ++ [t'], ?_, ?_, upd_same, ?_, ?_, fun e he => ?_⟩
        · have := hh.1
          exact Nat.lt_of_le_of_lt (show us.length ≤ 1000 by omega) (by decide)
        · exact (k2.trans (k3.sub (by simp))).trans (Kp.upd (by simp))
        · rw [upd_ne hlD]
          exact h3
        · have kk : Kp (Dd :: M) H' (upd H3 Dd (.lst (us ++ [v']))) := (k3.sub (fun x hx => by simp at hx; rw [hx]; exact List.mem_cons_of_mem _ hlM)).trans (Kp.upd (by simp))
          exact DSL.snoc (hv'.mono (Kp.upd (by simp))) (hes.mono kk)
        · rw [List.length_append, lu]
          rfl
        · rcases List.mem_append.mp he with he | he
          · exact hde e he
          · rw [List.mem_singleton.mp he]
            exact hdt
      · obtain ⟨n', us, es, k2, h2, hDD, hes, lu, hde⟩ := q
        have k02 : Kp [l] H H' := fun x o nx e => by
          have e1 := k1 x o nx e
          exact k2 x o (by simp at nx; simp [nx, ne_of_none e1 hDd]) e1
        refine ⟨Dd, us, rfl, .inl ⟨SqL.of hDD, fun p hp => ?_⟩⟩
        have kp : Kp [l] H' (upd H' p (.tup us)) := Kp.new hp
        have np : p ∉ M := nM k02 ⟨n', h2⟩ hp
        have hes' : DSL M (upd H' p (.tup us)) us es := (hes.drop (fun x hx => List.mem_cons_of_mem _ hx)).mono (kM kp)
        refine kq (.ref p) (.tup es) n' _ (k02.trans kp) ?_ (.tup np upd_same hes') ?_
        · rw [upd_ne (ne_of_none h2 hp)]
          exact h2
        · rw [show h + 1 + hb = (h + hb) + 1 by omega]
          refine ⟨?_, hde⟩
          have := hh.1
          rw [← hes'.length, lu, lvs]
          exact this
    | _ =>
      show (if false = true then _ else _)
      rw [if_neg (by decide)]
      exact ⟨_, rfl, kq _ _ (n - 1) H1 k1 h1 (hd.mono (kM k1)) (dh_le hh (by omega))⟩
end
end Q3

/-! LW5: a drawn ground is good; the ground made of it tells what was drawn. -/
namespace Q3
open PySem PySem.Spec PyProof.Rows L2
open KD (top FAt Each RowG KRow DGr Nm GdK Told osOf osOf_snoc mrs mrsA MkR KdR WAt seven)
open KM (G)
open GN (ksOf tsOf gsOf twOf gwOf fwOf rwOf nams gvs isNameB GoodK GoodW GoodG)
theorem lets_eq : GN.letters.cps.toList = KD.lets.cps.toList := by decide +kernel
theorem lets_all {c : Nat} (h : 97 ≤ c ∧ c ≤ 122) : c ∈ GN.letters.cps.toList := by
  have : ∀ d : Nat, d < 26 → (97 + d) ∈ GN.letters.cps.toList := by decide +kernel
  have := this (c - 97) (by omega)
  rwa [show 97 + (c - 97) = c by omega] at this
theorem nm_name {y : Str} (h : Nm y) : isNameB y = true := by
  obtain ⟨⟨g1, g2⟩, h1, h7⟩ := h
  unfold isNameB
  have e7 : inV (.str y) GN.wordsV = false := by
    rw [show GN.wordsV = seven.map V.str from rfl, KD.inV_str]
    exact decide_eq_false h7
  have l8 : y.length ≤ 8 := by
    have : y.cps.toList.length = y.length := by
      rw [Array.length_toList]
      rfl
    omega
  rw [e7, decide_eq_true h1, decide_eq_true l8]
  simp only [Bool.not_false, Bool.and_true, Bool.true_and, List.all_eq_true]
  exact fun c hc => decide_eq_true (lets_all (g2 c hc))
theorem lsr_of {α : Type} {R S : V → α → Prop} (h : ∀ v x, R v x → S v x) : ∀ {vs : List V} {xs : List α}, Each R vs xs → GN.LsR S vs xs
  | _, _, .nil => trivial
  | _, _, .cons a b => ⟨h _ _ a, lsr_of h b⟩
theorem kdR_at {M : List Addr} {H : Hp} {v : V} {x : KRow} (h : KdR M H v x) : GN.KdAt H v x := by
  obtain ⟨a, mk, ms, e, h1, h2, h3⟩ := h
  exact ⟨a, mk, ms, e, h1.1, h2.1, lsr_of (fun v m hm => by
    obtain ⟨b, tk, e, h1, h2⟩ := hm
    exact ⟨b, tk, e, h1.1, h2.1⟩) h3⟩
theorem wAt_at {M : List Addr} {H : Hp} {v : V} {x : KD.Row} (h : WAt M H v x) : GN.WkAt H v x := by
  obtain ⟨a, tk, e, ev, h1, h2, h3⟩ := h
  exact ⟨a, tk, e, ev, h1.1, h2.1, h3.1⟩
theorem ks_sub : ∀ (l : List KRow), (nams (ksOf l)).Sublist (osOf l)
  | [] => List.Sublist.refl _
  | x :: l => by
    show (x.1 :: nams (ksOf l)).Sublist ((x.1 :: x.2.map (·.1)) ++ osOf l)
    rw [List.cons_append]
    exact (List.Sublist.cons₂ _ ((ks_sub l).trans (List.sublist_append_right _ _)))
theorem ts_sub : ∀ (l : List KRow), (nams (tsOf l)).Sublist (osOf l)
  | [] => List.Sublist.refl _
  | x :: l => by
    have e : nams (tsOf (x :: l)) = x.2.map (·.1) ++ nams (tsOf l) := by
      unfold tsOf nams
      rw [List.flatMap_cons, List.map_append]
    rw [e]
    show (x.2.map (·.1) ++ nams (tsOf l)).Sublist ((x.1 :: x.2.map (·.1)) ++ osOf l)
    exact List.Sublist.append (List.sublist_cons_self _ _) (ts_sub l)
theorem gs_ts : ∀ (l : List KRow), nams (gsOf l) = nams (tsOf l)
  | [] => rfl
  | x :: l => by
    have ih := gs_ts l
    unfold gsOf tsOf nams at ih ⊢
    rw [List.flatMap_cons, List.flatMap_cons, List.map_append, List.map_append, ih]
    congr 1
    unfold gvs
    rw [List.map_map]
    rfl
theorem ts_len (l : List KRow) : (tsOf l).length ≤ (osOf l).length := by
  have := (ts_sub l).length_le
  rwa [List.length_map] at this
theorem gs_len (l : List KRow) : (gsOf l).length ≤ (osOf l).length := by
  have := ts_len l
  have e := congrArg List.length (gs_ts l)
  rw [List.length_map, List.length_map] at e
  omega
theorem ks_mem {l : List KRow} {y : Str} (h : Told l y) : ∃ k ∈ ksOf l, k.1 = y ∧ k.2 ≠ [] := by
  obtain ⟨k, hk, e, n⟩ := h
  refine ⟨(k.1, nams k.2), List.mem_map.mpr ⟨k, hk, rfl⟩, e, fun z => n ?_⟩
  exact List.map_eq_nil_iff.mp z
theorem os_take {l : List KRow} {i : Nat} {x : KRow} (h : l[i]? = some x) : ∃ r, osOf l = (osOf (l.take i) ++ x.1 :: x.2.map (·.1)) ++ r := by
  refine ⟨osOf (l.drop (i + 1)), ?_⟩
  rw [← osOf_snoc]
  have e : l.take (i + 1) = l.take i ++ [x] := by
    rw [List.take_succ, h]
    rfl
  rw [← e]
  unfold osOf
  rw [← List.flatMap_append, List.take_append_drop]
theorem good_of {kds : List KRow} {rows : List KD.Row} (h : DGr kds rows) : GoodG kds rows := by
  obtain ⟨nd, nm, l1, l4, gd, lr, rg, lo⟩ := h
  have ndo : (osOf kds).Nodup := (List.nodup_append.mp nd).1
  refine ⟨by omega, by omega, fun i x hx => ?_, fun i x hx => ?_⟩
  · obtain ⟨r, er⟩ := os_take hx
    have nd2 : (osOf (kds.take i) ++ x.1 :: x.2.map (·.1)).Nodup := by
      rw [er] at ndo
      exact (List.nodup_append.mp ndo).1
    have nm2 : ∀ y ∈ osOf (kds.take i) ++ x.1 :: x.2.map (·.1), Nm y := fun y hy => nm y (by rw [er]; exact List.mem_append_left _ hy)
    have ll : (osOf (kds.take i)).length ≤ 16 := by
      rw [er, List.length_append, List.length_append] at lo
      omega
    obtain ⟨g1, g2, g3⟩ := gd i x hx
    obtain ⟨na, nb, nab⟩ := List.nodup_append.mp nd2
    obtain ⟨nc, ndm⟩ := List.nodup_cons.mp nb
    refine ⟨nm_name (nm2 _ (List.mem_append_right _ List.mem_cons_self)), by omega, fun m hm => nm_name (nm2 _ (List.mem_append_right _ (List.mem_cons_of_mem _ (List.mem_map.mpr ⟨m, hm, rfl⟩)))), fun m hm => ⟨by have := (g2 m hm).1; omega, fun y hy => ((g2 m hm).2 y hy).imp id ks_mem⟩, fun ne => ?_, ?_, ?_, ?_, ?_, ?_, ?_, ?_, ?_⟩
    · match hmk : x.2, ne with
      | m :: _, _ => exact ⟨m, List.mem_cons_self, g3 m (by rw [hmk]; rfl)⟩
    · exact nd2.sublist (List.Sublist.append (ks_sub _) (List.cons_sublist_cons.mpr (List.nil_sublist _)))
    · exact fun z => nab _ ((ts_sub _).subset z) _ List.mem_cons_self rfl
    · refine nd2.sublist (List.Sublist.append (ts_sub _) (List.sublist_cons_self _ _))
    · intro m hm z
      rw [gs_ts] at z
      exact nab _ ((ts_sub _).subset z) _ (List.mem_cons_of_mem _ (List.mem_map.mpr ⟨m, hm, rfl⟩)) rfl
    · intro m hm z
      rcases List.mem_append.mp z with z | z
      · exact nab _ ((ks_sub _).subset z) _ (List.mem_cons_of_mem _ (List.mem_map.mpr ⟨m, hm, rfl⟩)) rfl
      · rw [List.mem_singleton] at z
        exact nc (by rw [← z]; exact List.mem_map.mpr ⟨m, hm, rfl⟩)
    · have := (ks_sub (kds.take i)).length_le
      rw [List.length_map] at this
      omega
    · have := ts_len (kds.take i)
      omega
    · have := gs_len (kds.take i)
      omega
  · obtain ⟨⟨gx, x1⟩, x7, xg, xl, xt⟩ := rg x (List.mem_of_getElem? hx)
    obtain ⟨_, ndr, nor⟩ := List.nodup_append.mp nd
    have hxm : x.1 ∈ rows.map (·.1) := List.mem_map.mpr ⟨x, List.mem_of_getElem? hx, rfl⟩
    have nO : x.1 ∉ osOf kds := fun z => nor _ z _ hxm rfl
    have nT : x.1 ∉ (rows.take i).map (·.1) := fun z => by
      have e : rows.take (i + 1) = rows.take i ++ [x] := by
        rw [List.take_succ, hx]
        rfl
      have nd2 : ((rows.take (i + 1)).map (·.1)).Nodup := ndr.sublist ((List.take_sublist _ _).map _)
      rw [e, List.map_append] at nd2
      exact (List.nodup_append.mp nd2).2.2 x.1 z x.1 (by simp) rfl
    have kmem : ∀ {y : Str}, y ∈ kds.map (·.1) → y ∈ nams (ksOf kds) := fun {y} hy => by
      unfold ksOf nams
      rw [List.map_map]
      exact hy
    have lt : (rows.take i).length ≤ 4 := Nat.le_trans (List.length_take_le _ _) (by
      have := (List.getElem?_eq_some_iff.mp hx).1
      omega)
    refine ⟨by omega, nm_name ⟨gx, x1, x7⟩, fun z => nO ((ks_sub _).subset z), fun z => ?_, fun z => ?_, fun z => ?_, fun z => ?_, ndo.sublist (ks_sub _), fun y hy => kmem (xt y hy), kmem xg, ?_, ?_, ?_, ?_⟩
    · unfold nams at z
      rw [List.map_append] at z
      rcases List.mem_append.mp z with z | z
      · exact nO ((ts_sub _).subset z)
      · exact nT (by unfold twOf at z; rw [List.map_map] at z; exact z)
    · unfold nams at z
      rw [List.map_append] at z
      rcases List.mem_append.mp z with z | z
      · exact nO ((ts_sub _).subset (by rw [← gs_ts]; exact z))
      · exact nT (by unfold gwOf at z; rw [List.map_map] at z; exact z)
    · exact nT (by unfold nams fwOf at z; rw [List.map_map] at z; exact z)
    · exact nT (by unfold nams rwOf at z; rw [List.map_map] at z; exact z)
    · rw [List.length_append]
      have := ts_len kds
      unfold twOf
      rw [List.length_map]
      omega
    · rw [List.length_append]
      have := gs_len kds
      unfold gwOf
      rw [List.length_map]
      omega
    · unfold fwOf
      rw [List.length_map]
      omega
    · unfold rwOf
      rw [List.length_map]
      omega
end Q3

/-! LW6: the ground that is made tells what was drawn. -/
namespace Q3
open PySem PySem.Spec PyProof.Rows L2 GenW GxR NdefX GX
open KD (top FAt Each RowG KRow DGr Nm GdK Told osOf osOf_snoc mrs mrsA MkR KdR WAt seven)
open KM (G)
open GN (ksOf tsOf gsOf twOf gwOf fwOf rwOf nams gvs isNameB GoodK GoodW GoodG)
theorem mrs_nams : ∀ (l : List KRow), (mrsA l).map (·.1) = nams (tsOf l)
  | [] => rfl
  | x :: l => by
    have ih := mrs_nams l
    unfold mrsA tsOf nams at ih ⊢
    rw [List.flatMap_cons, List.flatMap_cons, List.map_append, List.map_append, ih]
    congr 1
    unfold mrs
    rw [List.map_map]
    rfl
theorem all_nd {kds : List KRow} {rows : List KD.Row} (h : DGr kds rows) : ((mrsA kds ++ rows).map (·.1)).Nodup := by
  rw [List.map_append, mrs_nams]
  exact h.nd.sublist (List.Sublist.append (ts_sub _) (List.Sublist.refl _))
theorem ts_3 : ∀ (l : List KRow), (∀ x ∈ l, x.2.length ≤ 3) → (tsOf l).length ≤ 3 * l.length
  | [], _ => Nat.le_refl 0
  | x :: l, h => by
    have b : (tsOf (x :: l)).length = x.2.length + (tsOf l).length := by
      show (x.2 ++ tsOf l).length = _
      rw [List.length_append]
    have := ts_3 l fun y hy => h y (List.mem_cons_of_mem _ hy)
    have := h x List.mem_cons_self
    rw [b, List.length_cons]
    omega
theorem all_len {kds : List KRow} {rows : List KD.Row} (h : DGr kds rows) : (mrsA kds ++ rows).length ≤ 16 := by
  have e := congrArg List.length (mrs_nams kds)
  rw [List.length_map, List.length_map] at e
  have := h.lr
  have t12 := ts_3 kds fun x hx => by
    obtain ⟨j, hj, ej⟩ := List.getElem_of_mem hx
    exact (h.gd j x (by rw [List.getElem?_eq_getElem hj, ej])).1
  rw [List.length_append, e]
  have := h.l4
  omega
theorem all_row {kds : List KRow} {rows : List KD.Row} (h : DGr kds rows) : ∀ r ∈ mrsA kds ++ rows, RowG (kds.map (·.1)) r := fun r hr => by
  rcases List.mem_append.mp hr with hr | hr
  · obtain ⟨x, hx, hr⟩ := List.mem_flatMap.mp hr
    obtain ⟨m, hm, rfl⟩ := List.mem_map.mp hr
    obtain ⟨j, hj, ej⟩ := List.getElem_of_mem hx
    obtain ⟨g1, g2, _⟩ := h.gd j x (by rw [List.getElem?_eq_getElem hj, ej])
    obtain ⟨a, b, c⟩ := h.nm m.1 (List.mem_flatMap.mpr ⟨x, hx, List.mem_cons_of_mem _ (List.mem_map.mpr ⟨m, hm, rfl⟩)⟩)
    have xk : x.1 ∈ kds.map (·.1) := List.mem_map.mpr ⟨x, hx, rfl⟩
    refine ⟨⟨a, b⟩, c, xk, by have := (g2 m hm).1; show m.2.length ≤ 3; omega, fun y hy => ?_⟩
    rcases (g2 m hm).2 y hy with rfl | ⟨k, hk, rfl, _⟩
    · exact xk
    · exact List.mem_map.mpr ⟨k, List.mem_of_mem_take hk, rfl⟩
  · exact h.rg r hr
theorem kn_g {kds : List KRow} {rows : List KD.Row} (h : DGr kds rows) : ∀ x ∈ kds.map (·.1), G x := fun x hx => by
  obtain ⟨k, hk, rfl⟩ := List.mem_map.mp hx
  exact (h.nm _ (KD.osOf_mem hk)).1
theorem tbl_ne {M : List Addr} {H : Hp} (hM : ∀ T ∈ M, TabG H T) {a : Addr} {o : HO} (e : H a = some o) (n : ∀ ps, o ≠ .tbl ps) : a ∉ M := fun z => by
  obtain ⟨ps, hp, _⟩ := hM a z
  rw [hp] at e
  exact n ps (Option.some.inj e).symm
theorem gr_of {M : List Addr} {C g : Addr} {A : GN.GA} {H : Hp} {kds : List KRow} {rows : List KD.Row} (B : GN.Made C g A H kds rows) (hM : ∀ T ∈ M, TabG H T) (h : DGr kds rows) : GrAt M C H g (grOf (kds.map (·.1)) (mrsA kds ++ rows)) := by
  obtain ⟨nd, g0, ⟨d1, m1, k1⟩, ⟨d2, m2, k2⟩, ⟨d3, m3, k3⟩, ⟨d4, m4, k4⟩, ⟨d5, m5, k5⟩⟩ := B
  have ndT : (nams (tsOf kds ++ twOf rows)).Nodup := by
    have := all_nd h
    rw [List.map_append, mrs_nams] at this
    unfold nams at this ⊢
    rw [List.map_append, show (twOf rows).map (·.1) = rows.map (·.1) by unfold twOf; rw [List.map_map]; rfl]
    exact this
  have ndG : (nams (gsOf kds ++ gwOf rows)).Nodup := by
    have := all_nd h
    rw [List.map_append, mrs_nams, ← gs_ts] at this
    unfold nams at this ⊢
    rw [List.map_append, show (gwOf rows).map (·.1) = rows.map (·.1) by unfold gwOf; rw [List.map_map]; rfl]
    exact this
  refine ⟨A.dx, A.m, A.t, A.v, A.a, A.r, d1, d2, d3, d4, d5, ⟨tbl_ne hM g0 (fun ps z => nomatch z), g0⟩, ⟨tbl_ne hM m1 (fun ps z => nomatch z), m1⟩, ⟨tbl_ne hM m2 (fun ps z => nomatch z), m2⟩, ⟨tbl_ne hM m3 (fun ps z => nomatch z), m3⟩, ⟨tbl_ne hM m4 (fun ps z => nomatch z), m4⟩, ⟨tbl_ne hM m5 (fun ps z => nomatch z), m5⟩, fun a => ?_, fun f => ?_⟩
  · show (valV d1 (.inr a)).isSome = decide (a ∈ kds.map (·.1))
    by_cases ha : a ∈ kds.map (·.1)
    · obtain ⟨x, hx, rfl⟩ := List.mem_map.mp ha
      obtain ⟨v, hv, _⟩ := k1.val (x := (x.1, nams x.2)) (List.mem_map.mpr ⟨x, hx, rfl⟩) ((List.nodup_append.mp h.nd).1.sublist (ks_sub _))
      rw [hv, decide_eq_true ha]
      rfl
    · rw [k1.none fun x hx e => ha ?_, decide_eq_false ha]
      · rfl
      · obtain ⟨y, hy, rfl⟩ := List.mem_map.mp hx
        rw [← e]
        exact List.mem_map.mpr ⟨y, hy, rfl⟩
  · cases e : (grOf (kds.map (·.1)) (mrsA kds ++ rows)).tg f with
    | none =>
      have nf := grOf_none e
      refine k2.none fun x hx ef => nf ?_
      rw [List.map_append, mrs_nams]
      rcases List.mem_append.mp hx with hx | hx
      · exact List.mem_append_left _ (List.mem_map.mpr ⟨x, hx, ef⟩)
      · obtain ⟨y, hy, rfl⟩ := List.mem_map.mp hx
        exact List.mem_append_right _ (List.mem_map.mpr ⟨y, hy, ef⟩)
    | some r =>
      obtain ⟨t, k⟩ := r
      have hr := grOf_some e
      have hts : ((f, t) : Str × List Str) ∈ tsOf kds ++ twOf rows ∧ ((f, k) : Str × Str) ∈ gsOf kds ++ gwOf rows := by
        rcases List.mem_append.mp hr with hr | hr
        · obtain ⟨x, hx, hr⟩ := List.mem_flatMap.mp hr
          obtain ⟨m, hm, em⟩ := List.mem_map.mp hr
          injection em with e1 e2
          injection e2 with e2 e3
          have em : m = (f, t) := by
            rw [← e1, ← e2]
          subst em
          refine ⟨List.mem_append_left _ (List.mem_flatMap.mpr ⟨x, hx, hm⟩), List.mem_append_left _ (List.mem_flatMap.mpr ⟨x, hx, ?_⟩)⟩
          rw [← e3]
          exact List.mem_map.mpr ⟨(f, t), hm, rfl⟩
        · exact ⟨List.mem_append_right _ (List.mem_map.mpr ⟨_, hr, rfl⟩), List.mem_append_right _ (List.mem_map.mpr ⟨_, hr, rfl⟩)⟩
      obtain ⟨v, hv, b, rfl, hb⟩ := k2.val (x := (f, t)) hts.1 ndT
      obtain ⟨v2, hv2, rfl⟩ := k3.val (x := (f, k)) hts.2 ndG
      exact ⟨b, tbl_ne hM hb (fun ps z => nomatch z), hv, hb, hv2⟩
end Q3

/-! LW7: _law_right. -/
namespace Q3
open PySem PySem.Spec PyProof.Rows L2 GenW GxR NdefX GX
open KD (top FAt Each RowG)
open KM (G)
/-- a def that is called -/
structure Cal (K : PySem.W.Frag) (mg : Str → Option Value) (n : Str) (ps : List Str) (f : Addr) (fd : FuncData) : Prop where
  m : mg n = some (.ref f)
  kp : PySem.W.keepIn K (.ref f) = true
  b : Binds K fd ps []
/-- what the law holds of a ground, apart from M -/
structure LwM (M : List Addr) (H : Hp) (d kl : Addr) (kn : List Str) (rows : List KD.Row) : Prop where
  d : d ∉ M ∧ ∃ od kvs, H d = some (.frz od (.dK kvs)) ∧ Each (FAt M H) kvs rows
  nd : (rows.map (·.1)).Nodup
  k : kl ∉ M ∧ H kl = some (.lst (kn.map V.str))
  g : ∀ x ∈ kn, G x
  r : ∀ r ∈ rows, RowG kn r
theorem LwM.mono {M : List Addr} {H H' : Hp} {d kl : Addr} {kn : List Str} {rows : List KD.Row} (h : LwM M H d kl kn rows) (k : Kp M H H') : LwM M H' d kl kn rows := by
  obtain ⟨⟨n1, od, kvs, h1, h2⟩, nd, ⟨n2, hk⟩, hg, hr⟩ := h
  exact ⟨⟨n1, od, kvs, k _ _ n1 h1, h2.imp fun q r f => f.mono k⟩, nd, ⟨n2, k _ _ n2 hk⟩, hg, hr⟩
theorem LwM.drop {M N : List Addr} {H : Hp} {d kl : Addr} {kn : List Str} {rows : List KD.Row} (h : LwM M H d kl kn rows) (s : ∀ x ∈ N, x ∈ M) : LwM N H d kl kn rows := by
  obtain ⟨⟨n1, od, kvs, h1, h2⟩, nd, ⟨n2, hk⟩, hg, hr⟩ := h
  exact ⟨⟨fun z => n1 (s _ z), od, kvs, h1, h2.imp fun q r f => f.drop s⟩, nd, ⟨fun z => n2 (s _ z), hk⟩, hg, hr⟩
theorem LwM.lw {M : List Addr} {H : Hp} {d kl : Addr} {kn : List Str} {rows : List KD.Row} (h : LwM M H d kl kn rows) : LwG H d kl kn rows := by
  obtain ⟨⟨n1, od, kvs, h1, h2⟩, nd, ⟨n2, hk⟩, hg, hr⟩ := h.drop (N := []) (fun x hx => nomatch hx)
  exact ⟨⟨od, kvs, h1, h2⟩, nd, hk, hg, hr⟩
def spRt (C Tb Tw : Addr) (h : Nat) : Sp := fun vs H Q _ => ∃ (M : List Addr) (g d kl : Addr) (k : Str) (v : V) (t : D) (kn : List Str) (rows : List KD.Row), vs = [.ref g, .ref d, .ref kl, .str k, v] ∧ (Tb ∈ M ∧ Tw ∈ M ∧ Tb ≠ Tw) ∧ k ∈ kn ∧ GrAt M C H g (grOf kn rows) ∧ LwM M H d kl kn rows ∧ DS M H v t ∧ dh h t ∧ h ≤ 100 ∧ TabG H Tb ∧ TabG H Tw ∧ ∀ H', Kp [Tb, Tw] H H' → TabG H' Tb → TabG H' Tw → Q (.bl true) H'
def odd5 (k : Str) : List D := [.str "Zz", .non, .lst [.str "x"], .tup [.str k], .int 5]
theorem odd_no {kn : List Str} {rows : List KD.Row} {k : Str} (hg : ∀ x ∈ kn, G x) {j : Nat} {e : D} (h : (odd5 k)[j]? = some e) : kindD (grOf kn rows) e = false := by
  match j, h with
  | 0, h =>
    rw [← Option.some.inj h]
    refine decide_eq_false fun z => ?_
    have q := (hg _ z).2
    exact absurd (q 90 (by decide +kernel)) (by decide)
  | 1, h => rw [← Option.some.inj h]; rfl
  | 2, h => rw [← Option.some.inj h]; rfl
  | 3, h => rw [← Option.some.inj h]; rfl
  | 4, h => rw [← Option.some.inj h]; rfl
  | j + 5, h => exact nomatch h
abbrev sRt : Stmt := top 61
abbrev nRt : List Str := ["_law_ground", "_law_makes_here", "_law_kinds_here", "_law_kind", "_law_thing", "_law_told", "_law_one"]
abbrev pRt : List Str := ["_law_ground", "_law_makes_here", "_law_kinds_here", "_law_kind", "_law_thing"]
theorem scRt : FnScope nRt pRt (defScope sRt) := ⟨rfl, rfl, rfl, by decide +kernel, rfl, by decide +kernel, by decide +kernel⟩
section
variable {P : Program} {w : World} {K : PySem.W.Frag} {mg : Str → Option Value} {base : Heap} {f fs fb fl fg fn C Tb Tw : Addr} {fd ds db dl dg dn : FuncData}
theorem ok_rt (F : Fun K "_law_right" "_law_right" sRt f fd) (X : TxQ mg)
    (Cs : Cal K mg "is_saying" ["ground", "thing"] fs ds) (hs : ∀ h, FnOk P w K mg base CX0 (9 + 3 * h) fs ds ["ground", "thing"] (spSy C Tb Tw h))
    (Cb : Cal K mg "is_body" ["ground", "kind", "thing"] fb db) (hb : ∀ h, FnOk P w K mg base CX0 (9 + 3 * h) fb db ["ground", "kind", "thing"] (spBo C Tb Tw h))
    (Cl : Cal K mg "_law_is" pIs fl dl) (hl : ∀ h, FnOk P w K mg base CX0 (3 + h) fl dl pIs (spIs h))
    (Cg : Cal K mg "signs_of" ["thing"] fg dg) (hg : ∀ h, FnOk P w K mg base CX0 (2 + h) fg dg ["thing"] (spSg h))
    (Cn : Cal K mg "_law_signs" ["_law_thing"] fn dn) (hn : ∀ h, FnOk P w K mg base CX0 (1 + h) fn dn ["_law_thing"] (spLs h)) (h : Nat) : FnOk P w K mg base CX0 (10 + 3 * h) f fd pRt (spRt C Tb Tw h) := by
  rw [show 10 + 3 * h = (9 + 3 * h) + 1 by omega]
  refine F.ok scRt (fun vs H Q E h => ?_) (fun cdv A0 outer s H vs Q E hr hq => ?_)
  · obtain ⟨M, g, d, kl, k, v, t, kn, rows, rfl, _⟩ := h
    rfl
  obtain ⟨M0, g, d, kl, k, v, t, kn, rows, rfl, ⟨hTM, hWM, hTW⟩, hkn, hG, hL, hd, hh, h2, hT, hW, kq⟩ := hq
  refine ⟨_, /-TR-/(pss_cons (ps_set (i := 5) scRt.nd rfl (Or.inl rfl) (pe_call (hs h) (hr.mono (by omega)) rfl Cs.m Cs.kp Cs.b .nil pass0 (pa_cons (pv 0) (pa_cons (pv 4) pa_nil))))
      (pss_cons (ps_if (PW.pt (pw_or (pt_not (pt_val (pe_callB call_isi (by rfl) X.isi GN.boot_isi (pa_cons (pv 5) (pa_cons (pe_bltn (v := .ty "bool") rfl X.bool boot_boolT rfl) pa_nil))))) (pw_or1 (pt_cmpR op_ne (pv 5) (pe_call (hl h) (hr.mono (by omega)) rfl Cl.m Cl.kp Cl.b .nil pass0 (pa_cons (pv 1) (pa_cons (pv 2) (pa_cons (pv 4) (pa_cons (pe_lst pa_nil) pa_nil))))) (nomark _))))) (pss_one
        (ps_ret pe_bl)) pss_nil)
      (pss_cons (ps_if (PW.pt (pw_and (pt_val (pv 5)) (pw_and1 (pt_cmpR op_ne (pe_call (hg h) (hr.mono (by omega)) rfl Cg.m Cg.kp Cg.b .nil pass0 (pa_cons (pv 4) pa_nil)) (pe_call (hn h) (hr.mono (by omega)) rfl Cn.m Cn.kp Cn.b .nil pass0 (pa_cons (pv 4) pa_nil)) (nomark _))))) (pss_one
        (ps_ret pe_bl)) pss_nil)
      (pss_cons (ps_set (i := 5) scRt.nd rfl (Or.inl rfl) (pe_call (hb h) (hr.mono (by omega)) rfl Cb.m Cb.kp Cb.b .nil pass0 (pa_cons (pv 0) (pa_cons (pv 3) (pa_cons (pv 4) pa_nil)))))
      (pss_cons (ps_if (PW.pt (pw_or (pt_not (pt_val (pe_callB call_isi (by rfl) X.isi GN.boot_isi (pa_cons (pv 5) (pa_cons (pe_bltn (v := .ty "bool") rfl X.bool boot_boolT rfl) pa_nil))))) (pw_or1 (pt_cmpR op_ne (pv 5) (pe_call (hl h) (hr.mono (by omega)) rfl Cl.m Cl.kp Cl.b .nil pass0 (pa_cons (pv 1) (pa_cons (pv 2) (pa_cons (pv 4) (pa_cons (pe_lst (pa_cons (pv 3) pa_nil)) pa_nil))))) (nomark _))))) (pss_one
        (ps_ret pe_bl)) pss_nil)
      (pss_one
        (ps_ret (pe_cmpR (op_eqD (KD.u64 hr)) (pe_lc (own := [("_law_one", 6)]) (g := gName 6) (tt := tB (tCall (spBo C Tb Tw h) [] E0 (tCons (tVar 0) (tCons (tVar 6) (tCons (tVar 4) tNil))))) rfl scRt.nd (pi_list (pe_lst (pa_cons pe_str (pa_cons pe_non (pa_cons (pe_lst (pa_cons pe_str pa_nil)) (pa_cons (pe_tup (pa_cons (pv 3) pa_nil)) (pa_cons pe_int pa_nil))))))) (blkOk_by (N := nRt) (sc := defScope sRt) (by decide +kernel)) (fun _ _ _ _ _ => pg_name (i := 6) scRt.nd rfl (Or.inl rfl)) (fun _ _ _ _ _ => pts_one (pt_val (pe_call (hb h) (hr.mono (by omega)) rfl Cb.m Cb.kp Cb.b .nil pass0 (pa_cons (pv 0) (pa_cons (pv 6) (pa_cons (pv 4) pa_nil)))))) (fun _ _ _ _ _ => pv 6)) (pe_lst pa_nil) (nomark _)))))))))/-TRE-/, ?_⟩
  have subM0 : ∀ x ∈ [Tb, Tw], x ∈ M0 := fun x hx => by
    simp at hx
    rcases hx with rfl | rfl
    · exact hTM
    · exact hWM
  replace hG := hG.drop subM0
  replace hd := hd.drop subM0
  replace hL := hL.drop subM0
  clear hTM hWM
  have gk : G k := hL.g k hkn
  have lk : k.length ≤ 1000 := by
    have := gk.1
    have e : k.cps.toList.length = k.length := by
      rw [Array.length_toList]
      rfl
    omega
  have mm : (Tb ∈ [Tb, Tw] ∧ Tw ∈ [Tb, Tw] ∧ Tb ≠ Tw) := ⟨by simp, by simp, hTW⟩
  have nz : ∀ {H1 : Hp} {x : Addr}, TabG H1 Tb → TabG H1 Tw → H1 x = none → x ∉ [Tb, Tw] := fun {H1 x} a b e => by
    simp [tab_ne a e, tab_ne b e]
  -- is_saying
  refine ⟨_, rfl, _, rfl, [Tb, Tw], g, v, t, grOf kn rows, rfl, mm, hG, hd, hh, by omega, hT, hW, fun H1 k1 t1 w1 => ?_⟩
  refine ⟨_, rfl, .bl _, V.ty "bool", _, _, true, rfl, .ty "bool", .base (.bl _), kit_ty (by decide +kernel), _, rfl, ?_⟩
  show (if (!true) = true then _ else _)
  rw [if_neg (by decide)]
  refine ⟨_, rfl, _, rfl, _, rfl, _, rfl, Nat.zero_le _, fun q1 hq1 => ?_⟩
  have a2 : Same H1 (upd H1 q1 (.lst [])) := KD.Same.upd hq1
  have k2 : Kp [Tb, Tw] H1 (upd H1 q1 (.lst [])) := Kp.new hq1
  have t2 := tab_new (o := .lst []) t1 hq1
  have w2 := tab_new (o := .lst []) w1 hq1
  have hq12 : upd H1 q1 (.lst []) q1 = some (.lst []) := upd_same
  generalize upd H1 q1 (.lst []) = H2 at a2 k2 t2 w2 hq12 ⊢
  have k02 := k1.trans k2
  refine ⟨d, kl, q1, v, t, kn, [], rows, rfl, (hL.mono k02).lw, (hd.mono k02).drop (by simp), hh, hq12, by simp, (by simp; omega), fun H3 a3 => ?_⟩
  have k3 : Kp [Tb, Tw] H2 H3 := Kp.same a3
  have t3 := tab_kp t2 (Kp.same (M := []) a3) (by simp)
  have w3 := tab_kp w2 (Kp.same (M := []) a3) (by simp)
  have k03 := k02.trans k3
  refine ⟨rfl, false, congrArg V.bl (by rw [decide_eq_true rfl]; rfl), iteF ?_⟩
  -- the signs
  cases eb : isD (grOf kn rows) h t [] with
  | false =>
    refine ⟨_, rfl, _, rfl, iteF (iteF ?_)⟩
    have k04 := k03
    have t4 := t3
    have w4 := w3
    generalize H3 = H4 at k04 t4 w4 ⊢
    refine ⟨_, rfl, _, rfl, _, rfl, [Tb, Tw], g, .str k, v, .str k, t, grOf kn rows, rfl, mm, hG.mono k04, .str lk, hd.mono k04, hh, by omega, t4, w4, fun H5 k5 t5 w5 => ?_⟩
    rw [show kindD (grOf kn rows) (.str k) = true from decide_eq_true hkn, Bool.true_and]
    have k05 := k04.trans k5
    refine ⟨_, rfl, .bl _, V.ty "bool", _, _, true, rfl, .ty "bool", .base (.bl _), kit_ty (by decide +kernel), _, rfl, ?_⟩
    show (if (!true) = true then _ else _)
    rw [if_neg (by decide)]
    refine ⟨_, rfl, _, rfl, _, rfl, _, rfl, _, rfl, by simp; decide, fun q2 hq2 => ?_⟩
    have k6 : Kp [Tb, Tw] H5 (upd H5 q2 (.lst [V.str k])) := Kp.new hq2
    have t6 := tab_new (o := .lst [V.str k]) t5 hq2
    have w6 := tab_new (o := .lst [V.str k]) w5 hq2
    have hq26 : upd H5 q2 (.lst [V.str k]) q2 = some (.lst [V.str k]) := upd_same
    generalize upd H5 q2 (.lst [V.str k]) = H6 at k6 t6 w6 hq26 ⊢
    have k06 := k05.trans k6
    refine ⟨d, kl, q2, v, t, kn, [k], rows, rfl, (hL.mono k06).lw, (hd.mono k06).drop (by simp), hh, hq26, by simpa using hkn, (by simp; omega), fun H7 a7 => ?_⟩
    have k07 := k06.trans (Kp.same a7)
    have t7 := tab_kp t6 (Kp.same (M := []) a7) (by simp)
    have w7 := tab_kp w6 (Kp.same (M := []) a7) (by simp)
    refine ⟨rfl, false, congrArg V.bl (by rw [show strD (.str k) = k from rfl, decide_eq_true rfl]; rfl), iteF ?_⟩
    clear k06 k6 t6 w6 a7 hq26 k05 k5 t5 w5
    refine ⟨by simp; decide, fun p1 hp1 => ?_⟩
    have k8 : Kp [Tb, Tw] H7 (upd H7 p1 (.lst [V.str "x"])) := Kp.new hp1
    have t8 := tab_new (o := .lst [V.str "x"]) t7 hp1
    have w8 := tab_new (o := .lst [V.str "x"]) w7 hp1
    have n8 := nz t7 w7 hp1
    have h8 : upd H7 p1 (.lst [V.str "x"]) p1 = some (.lst [V.str "x"]) := upd_same
    generalize upd H7 p1 (.lst [V.str "x"]) = H8 at k8 t8 w8 h8 ⊢
    refine ⟨_, rfl, by simp; decide, fun p2 hp2 => ?_⟩
    have k9 : Kp [Tb, Tw] H8 (upd H8 p2 (.tup [V.str k])) := Kp.new hp2
    have t9 := tab_new (o := .tup [V.str k]) t8 hp2
    have w9 := tab_new (o := .tup [V.str k]) w8 hp2
    have n9 := nz t8 w8 hp2
    have h9 : upd H8 p2 (.tup [V.str k]) p2 = some (.tup [V.str k]) := upd_same
    generalize upd H8 p2 (.tup [V.str k]) = H9 at k9 t9 w9 h9 ⊢
    refine ⟨by simp; decide, fun p3 hp3 => ?_⟩
    have n10 := nz t9 w9 hp3
    have k10 : Kp [Tb, Tw] H9 (upd H9 p3 (.lst [V.str "Zz", .non, .ref p1, .ref p2, .int 5])) := Kp.new hp3
    have t10 := tab_new (o := .lst [V.str "Zz", .non, .ref p1, .ref p2, .int 5]) t9 hp3
    have w10 := tab_new (o := .lst [V.str "Zz", .non, .ref p1, .ref p2, .int 5]) w9 hp3
    have h10 : upd H9 p3 (.lst [V.str "Zz", .non, .ref p1, .ref p2, .int 5]) p3 = some (.lst [V.str "Zz", .non, .ref p1, .ref p2, .int 5]) := upd_same
    refine ⟨p3, rfl, ⟨_, SqL.of h10⟩, fun Dd hDd => ?_⟩
    generalize upd H9 p3 (.lst [V.str "Zz", .non, .ref p1, .ref p2, .int 5]) = H10 at k10 t10 w10 h10 hDd ⊢
    have k010 := ((k07.trans k8).trans k9).trans k10
    have dl : DSL [Tb, Tw] H10 [V.str "Zz", .non, .ref p1, .ref p2, .int 5] (odd5 k) := .cons (.str (by decide)) (.cons .non (.cons (.lst n8 (k10 _ _ n8 (k9 _ _ n8 h8)) (.cons (.str (by decide)) .nil)) (.cons (.tup n9 (k10 _ _ n9 h9) (.cons (.str lk) .nil)) (.cons .int .nil))))
    have nD := nz t10 w10 hDd
    refine lc_list (xs := [V.str "Zz", .non, .ref p1, .ref p2, .int 5]) (fun j H' => Kp [Tb, Tw] (upd H10 Dd (.lst [])) H' ∧ TabG H' Tb ∧ TabG H' Tw) ⟨Kp.refl _, tab_new t10 hDd, tab_new w10 hDd⟩ (fun j H' _ q => SqL.of (q.1 _ _ n10 (by rw [upd_ne (ne_of_none h10 hDd)]; exact h10))) (fun j y H' hy q => ?_) (fun H' q => ?_)
    · obtain ⟨q1, t11, w11⟩ := q
      have k11 := (Kp.new (M := [Tb, Tw]) (o := .lst []) hDd).trans q1
      obtain ⟨e, he, hE⟩ := dl.get hy
      refine ⟨rfl, ?_⟩
      refine ⟨_, rfl, _, rfl, _, rfl, [Tb, Tw], g, y, v, e, t, grOf kn rows, rfl, mm, hG.mono (k010.trans k11), hE.mono k11, hd.mono (k010.trans k11), hh, by omega, t11, w11, fun H12 k12 t12 w12 => ?_⟩
      rw [odd_no hL.g he, Bool.false_and]
      refine ⟨_, rfl, ?_⟩
      exact iteF ⟨q1.trans k12, t12, w12⟩
    · obtain ⟨k11, t11, w11⟩ := q
      have e11 := k11 _ _ nD (upd_same (o := .lst []))
      refine ⟨by simp, fun p4 hp4 => ?_⟩
      refine ⟨.list [], .list [], .lst (SqL.of (by rw [upd_ne (ne_of_none e11 hp4)]; exact e11)) .nil, .lst (SqL.of upd_same) .nil, KD.shaped_strs (ts := []) (fun _ h => nomatch h), KD.shaped_strs (ts := []) (fun _ h => nomatch h), ?_⟩
      exact kq _ ((k010.trans (Kp.new hDd)).trans (k11.trans (Kp.new hp4))) (tab_new t11 hp4) (tab_new w11 hp4)
  | true =>
    have wf := wf_is eb
    refine ⟨_, rfl, _, rfl, iteT ⟨_, rfl, v, t, rfl, (hd.mono k03).drop (by simp), wf, fun H31 s31 => ?_⟩⟩
    refine ⟨_, rfl, v, t, rfl, (hd.mono (k03.trans (Kp.same s31))).drop (by simp), hh, .inr wf, fun H4 s4 => ?_⟩
    refine ⟨rfl, false, congrArg V.bl (by rw [tv_wf wf, decide_eq_true rfl]; rfl), iteF ?_⟩
    have k34 : Kp [Tb, Tw] H3 H4 := (Kp.same s31).trans (Kp.same s4)
    have k04 := k03.trans k34
    have t4 := tab_kp t3 ((Kp.same (M := []) s31).trans (Kp.same s4)) (by simp)
    have w4 := tab_kp w3 ((Kp.same (M := []) s31).trans (Kp.same s4)) (by simp)
    refine ⟨_, rfl, _, rfl, _, rfl, [Tb, Tw], g, .str k, v, .str k, t, grOf kn rows, rfl, mm, hG.mono k04, .str lk, hd.mono k04, hh, by omega, t4, w4, fun H5 k5 t5 w5 => ?_⟩
    rw [show kindD (grOf kn rows) (.str k) = true from decide_eq_true hkn, Bool.true_and]
    have k05 := k04.trans k5
    refine ⟨_, rfl, .bl _, V.ty "bool", _, _, true, rfl, .ty "bool", .base (.bl _), kit_ty (by decide +kernel), _, rfl, ?_⟩
    show (if (!true) = true then _ else _)
    rw [if_neg (by decide)]
    refine ⟨_, rfl, _, rfl, _, rfl, _, rfl, _, rfl, by simp; decide, fun q2 hq2 => ?_⟩
    have k6 : Kp [Tb, Tw] H5 (upd H5 q2 (.lst [V.str k])) := Kp.new hq2
    have t6 := tab_new (o := .lst [V.str k]) t5 hq2
    have w6 := tab_new (o := .lst [V.str k]) w5 hq2
    have hq26 : upd H5 q2 (.lst [V.str k]) q2 = some (.lst [V.str k]) := upd_same
    generalize upd H5 q2 (.lst [V.str k]) = H6 at k6 t6 w6 hq26 ⊢
    have k06 := k05.trans k6
    refine ⟨d, kl, q2, v, t, kn, [k], rows, rfl, (hL.mono k06).lw, (hd.mono k06).drop (by simp), hh, hq26, by simpa using hkn, (by simp; omega), fun H7 a7 => ?_⟩
    have k07 := k06.trans (Kp.same a7)
    have t7 := tab_kp t6 (Kp.same (M := []) a7) (by simp)
    have w7 := tab_kp w6 (Kp.same (M := []) a7) (by simp)
    refine ⟨rfl, false, congrArg V.bl (by rw [show strD (.str k) = k from rfl, decide_eq_true rfl]; rfl), iteF ?_⟩
    clear k06 k6 t6 w6 a7 hq26 k05 k5 t5 w5
    refine ⟨by simp; decide, fun p1 hp1 => ?_⟩
    have k8 : Kp [Tb, Tw] H7 (upd H7 p1 (.lst [V.str "x"])) := Kp.new hp1
    have t8 := tab_new (o := .lst [V.str "x"]) t7 hp1
    have w8 := tab_new (o := .lst [V.str "x"]) w7 hp1
    have n8 := nz t7 w7 hp1
    have h8 : upd H7 p1 (.lst [V.str "x"]) p1 = some (.lst [V.str "x"]) := upd_same
    generalize upd H7 p1 (.lst [V.str "x"]) = H8 at k8 t8 w8 h8 ⊢
    refine ⟨_, rfl, by simp; decide, fun p2 hp2 => ?_⟩
    have k9 : Kp [Tb, Tw] H8 (upd H8 p2 (.tup [V.str k])) := Kp.new hp2
    have t9 := tab_new (o := .tup [V.str k]) t8 hp2
    have w9 := tab_new (o := .tup [V.str k]) w8 hp2
    have n9 := nz t8 w8 hp2
    have h9 : upd H8 p2 (.tup [V.str k]) p2 = some (.tup [V.str k]) := upd_same
    generalize upd H8 p2 (.tup [V.str k]) = H9 at k9 t9 w9 h9 ⊢
    refine ⟨by simp; decide, fun p3 hp3 => ?_⟩
    have n10 := nz t9 w9 hp3
    have k10 : Kp [Tb, Tw] H9 (upd H9 p3 (.lst [V.str "Zz", .non, .ref p1, .ref p2, .int 5])) := Kp.new hp3
    have t10 := tab_new (o := .lst [V.str "Zz", .non, .ref p1, .ref p2, .int 5]) t9 hp3
    have w10 := tab_new (o := .lst [V.str "Zz", .non, .ref p1, .ref p2, .int 5]) w9 hp3
    have h10 : upd H9 p3 (.lst [V.str "Zz", .non, .ref p1, .ref p2, .int 5]) p3 = some (.lst [V.str "Zz", .non, .ref p1, .ref p2, .int 5]) := upd_same
    refine ⟨p3, rfl, ⟨_, SqL.of h10⟩, fun Dd hDd => ?_⟩
    generalize upd H9 p3 (.lst [V.str "Zz", .non, .ref p1, .ref p2, .int 5]) = H10 at k10 t10 w10 h10 hDd ⊢
    have k010 := ((k07.trans k8).trans k9).trans k10
    have dl : DSL [Tb, Tw] H10 [V.str "Zz", .non, .ref p1, .ref p2, .int 5] (odd5 k) := .cons (.str (by decide)) (.cons .non (.cons (.lst n8 (k10 _ _ n8 (k9 _ _ n8 h8)) (.cons (.str (by decide)) .nil)) (.cons (.tup n9 (k10 _ _ n9 h9) (.cons (.str lk) .nil)) (.cons .int .nil))))
    have nD := nz t10 w10 hDd
    refine lc_list (xs := [V.str "Zz", .non, .ref p1, .ref p2, .int 5]) (fun j H' => Kp [Tb, Tw] (upd H10 Dd (.lst [])) H' ∧ TabG H' Tb ∧ TabG H' Tw) ⟨Kp.refl _, tab_new t10 hDd, tab_new w10 hDd⟩ (fun j H' _ q => SqL.of (q.1 _ _ n10 (by rw [upd_ne (ne_of_none h10 hDd)]; exact h10))) (fun j y H' hy q => ?_) (fun H' q => ?_)
    · obtain ⟨q1, t11, w11⟩ := q
      have k11 := (Kp.new (M := [Tb, Tw]) (o := .lst []) hDd).trans q1
      obtain ⟨e, he, hE⟩ := dl.get hy
      refine ⟨rfl, ?_⟩
      refine ⟨_, rfl, _, rfl, _, rfl, [Tb, Tw], g, y, v, e, t, grOf kn rows, rfl, mm, hG.mono (k010.trans k11), hE.mono k11, hd.mono (k010.trans k11), hh, by omega, t11, w11, fun H12 k12 t12 w12 => ?_⟩
      rw [odd_no hL.g he, Bool.false_and]
      refine ⟨_, rfl, ?_⟩
      exact iteF ⟨q1.trans k12, t12, w12⟩
    · obtain ⟨k11, t11, w11⟩ := q
      have e11 := k11 _ _ nD (upd_same (o := .lst []))
      refine ⟨by simp, fun p4 hp4 => ?_⟩
      refine ⟨.list [], .list [], .lst (SqL.of (by rw [upd_ne (ne_of_none e11 hp4)]; exact e11)) .nil, .lst (SqL.of upd_same) .nil, KD.shaped_strs (ts := []) (fun _ h => nomatch h), KD.shaped_strs (ts := []) (fun _ h => nomatch h), ?_⟩
      exact kq _ ((k010.trans (Kp.new hDd)).trans (k11.trans (Kp.new hp4))) (tab_new t11 hp4) (tab_new w11 hp4)
end
end Q3

/-! LW8: _law_great. -/
namespace Q3
open PySem PySem.Spec PyProof.Rows L2 GenW GxR NdefX GX
open KD (top StA ButS spDraw)
open KM (G)
theorem kp_but {p : Addr} {H H' : Hp} (b : ButS p H H') : Kp [p] H H' := fun x o n e => b x o (fun z => n (by simp [z])) e
theorem not1 {H : Hp} {p x : Addr} (h : StA H p) (e : H x = none) : x ∉ [p] := fun z => h.not e (by simpa using z)
/-- no tuple in it is longer than three -/
def th3 : Nat → D → Prop
  | 0, _ => False
  | h + 1, .tup xs => xs.length ≤ 3 ∧ ∀ x ∈ xs, th3 h x
  | _ + 1, _ => True
theorem th3_le : ∀ {h h' : Nat} {d : D}, th3 h d → h ≤ h' → th3 h' d
  | 0, _, _, z, _ => z.elim
  | h + 1, 0, _, _, l => absurd l (by omega)
  | h + 1, h' + 1, .tup xs, q, l => ⟨q.1, fun x hx => th3_le (q.2 x hx) (by omega)⟩
  | h + 1, h' + 1, .non, _, _ => trivial
  | h + 1, h' + 1, .bl _, _, _ => trivial
  | h + 1, h' + 1, .int _, _, _ => trivial
  | h + 1, h' + 1, .str _, _, _ => trivial
  | h + 1, h' + 1, .lst _, _, _ => trivial
  | h + 1, h' + 1, .dct, _, _ => trivial
theorem th3_dh : ∀ {h : Nat} {d : D}, th3 h d → dh h d
  | 0, _, z => z.elim
  | h + 1, .tup xs, q => ⟨Nat.le_trans q.1 (by decide), fun x hx => th3_dh (q.2 x hx)⟩
  | h + 1, .non, _ => trivial
  | h + 1, .bl _, _ => trivial
  | h + 1, .int _, _ => trivial
  | h + 1, .str _, _ => trivial
  | h + 1, .lst _, _ => trivial
  | h + 1, .dct, _ => trivial
theorem sum_le3 {f : D → Nat} {c : Nat} : ∀ {xs : List D}, (∀ x ∈ xs, 2 * f x + 1 ≤ c) → 2 * (xs.map f).sum + xs.length ≤ xs.length * c
  | [], _ => by simp
  | x :: xs, h => by
    have h1 := h x List.mem_cons_self
    have h2 := sum_le3 fun y hy => h y (List.mem_cons_of_mem _ hy)
    rw [List.map_cons, List.sum_cons, List.length_cons]
    have e : (xs.length + 1) * c = xs.length * c + c := Nat.succ_mul _ _
    omega
theorem th3_cnt : ∀ {h : Nat} {d : D}, th3 h d → 2 * cnt h d + 1 ≤ 3 ^ h
  | 0, _, z => z.elim
  | h + 1, .tup xs, q => by
    show 2 * (1 + (xs.map (cnt h)).sum) + 1 ≤ 3 ^ (h + 1)
    have := sum_le3 fun x hx => th3_cnt (q.2 x hx)
    have l := q.1
    have p1 : 1 ≤ 3 ^ h := Nat.one_le_pow _ _ (by decide)
    rw [Nat.pow_succ]
    generalize 3 ^ h = c at this p1 ⊢
    generalize (xs.map (cnt h)).sum = z at this ⊢
    have l3 : xs.length = 0 ∨ xs.length = 1 ∨ xs.length = 2 ∨ xs.length = 3 := by omega
    rcases l3 with e | e | e | e <;> rw [e] at this <;> omega
  | h + 1, .non, _ => by
    show 2 * 1 + 1 ≤ _
    rw [Nat.pow_succ]
    have : 1 ≤ 3 ^ h := Nat.one_le_pow _ _ (by decide)
    omega
  | h + 1, .bl _, _ => by
    show 2 * 1 + 1 ≤ _
    rw [Nat.pow_succ]
    have : 1 ≤ 3 ^ h := Nat.one_le_pow _ _ (by decide)
    omega
  | h + 1, .int _, _ => by
    show 2 * 1 + 1 ≤ _
    rw [Nat.pow_succ]
    have : 1 ≤ 3 ^ h := Nat.one_le_pow _ _ (by decide)
    omega
  | h + 1, .str _, _ => by
    show 2 * 1 + 1 ≤ _
    rw [Nat.pow_succ]
    have : 1 ≤ 3 ^ h := Nat.one_le_pow _ _ (by decide)
    omega
  | h + 1, .lst _, _ => by
    show 2 * 1 + 1 ≤ _
    rw [Nat.pow_succ]
    have : 1 ≤ 3 ^ h := Nat.one_le_pow _ _ (by decide)
    omega
  | h + 1, .dct, _ => by
    show 2 * 1 + 1 ≤ _
    rw [Nat.pow_succ]
    have : 1 ≤ 3 ^ h := Nat.one_le_pow _ _ (by decide)
    omega
theorem cnt_le : ∀ {h h' : Nat} {d : D}, dh h d → h ≤ h' → cnt h' d = cnt h d
  | 0, _, _, z, _ => z.elim
  | h + 1, 0, _, _, l => absurd l (by omega)
  | h + 1, h' + 1, .tup xs, q, l => by
    show 1 + _ = 1 + _
    rw [List.map_congr_left fun x hx => cnt_le (q.2 x hx) (by omega)]
  | h + 1, h' + 1, .non, _, _ => rfl
  | h + 1, h' + 1, .bl _, _, _ => rfl
  | h + 1, h' + 1, .int _, _, _ => rfl
  | h + 1, h' + 1, .str _, _, _ => rfl
  | h + 1, h' + 1, .lst _, _, _ => rfl
  | h + 1, h' + 1, .dct, _, _ => rfl
/-- the row of joints: the first ones e high over the leaves, the others one higher -/
def QI (ds : List D) : Prop := ∃ (e : Nat) (xs ys : List D), ds = xs ++ ys ∧ (∀ x ∈ xs, th3 (3 + e) x) ∧ (∀ y ∈ ys, th3 (4 + e) y) ∧ e ≤ 9 ∧ (xs.length + 2 * ys.length - 1) * 2 ^ e ≤ 303
theorem pow_le {n e : Nat} (h : n * 2 ^ e ≤ 303) (n1 : 1 ≤ n) : e ≤ 8 := by
  refine Nat.le_of_not_lt fun l => ?_
  have h9 : 2 ^ 9 ≤ 2 ^ e := Nat.pow_le_pow_right (by decide) l
  have := Nat.le_trans (Nat.mul_le_mul n1 h9) h
  exact absurd this (by decide)
theorem half {a b e : Nat} (h : b * 2 ^ e ≤ 303) (l : 2 * a ≤ b) : a * 2 ^ (e + 1) ≤ 303 := by
  rw [Nat.pow_succ, Nat.mul_comm (2 ^ e) 2, ← Nat.mul_assoc, Nat.mul_comm a 2]
  exact Nat.le_trans (Nat.mul_le_mul_right _ l) h
theorem QI.norm {ds : List D} (h : QI ds) (n : ds ≠ []) : ∃ (e : Nat) (xs ys : List D), ds = xs ++ ys ∧ (∀ x ∈ xs, th3 (3 + e) x) ∧ (∀ y ∈ ys, th3 (4 + e) y) ∧ e ≤ 9 ∧ (xs.length + 2 * ys.length - 1) * 2 ^ e ≤ 303 ∧ xs ≠ [] := by
  obtain ⟨e, xs, ys, rfl, hx, hy, le, hw⟩ := h
  cases xs with
  | cons x xs => exact ⟨e, _, ys, rfl, hx, hy, le, hw, by simp⟩
  | nil =>
    cases ys with
    | nil => exact absurd rfl n
    | cons y ys =>
      rw [List.length_nil, List.length_cons] at hw
      have := pow_le hw (by omega)
      refine ⟨e + 1, y :: ys, [], by simp, fun z hz => ?_, (fun z hz => nomatch hz), by omega, ?_, by simp⟩
      · rw [show 3 + (e + 1) = 4 + e by omega]
        exact hy z hz
      · rw [List.length_nil, List.length_cons]
        exact half hw (by omega)
theorem QI.one {d : D} (h : QI [d]) : th3 12 d := by
  obtain ⟨e, xs, ys, ed, hx, hy, le, hw, n⟩ := h.norm (by simp)
  cases xs with
  | nil => exact absurd rfl n
  | cons x xs =>
    injection ed with e1 e2
    rw [e1]
    exact th3_le (hx x List.mem_cons_self) (by omega)
theorem th3_and {h : Nat} {wd : Str} {a b : D} (h1 : 1 ≤ h) (ha : th3 h a) (hb : th3 h b) : th3 (h + 1) (.tup [.str wd, a, b]) := by
  refine ⟨by simp, fun x hx => ?_⟩
  rcases List.mem_cons.mp hx with rfl | hx
  · obtain ⟨k, rfl⟩ : ∃ k, h = k + 1 := ⟨h - 1, by omega⟩
    trivial
  · rcases List.mem_cons.mp hx with rfl | hx
    · exact ha
    · rw [List.mem_singleton.mp hx]; exact hb
theorem QI.step {d1 d2 : D} {ds : List D} {wd : Str} (h : QI (d1 :: d2 :: ds)) : QI (ds ++ [.tup [.str wd, d1, d2]]) := by
  obtain ⟨e, xs, ys, ed, hx, hy, le, hw, n⟩ := h.norm (by simp)
  cases xs with
  | nil => exact absurd rfl n
  | cons x xs =>
    injection ed with e1 e2
    subst e1
    cases xs with
    | nil =>
      have e2 : d2 :: ds = ys := e2
      subst e2
      rw [List.length_cons, List.length_nil, List.length_cons] at hw
      have := pow_le hw (by omega)
      refine ⟨e + 1, ds, [.tup [.str wd, d1, d2]], rfl, fun z hz => ?_, fun z hz => ?_, by omega, ?_⟩
      · rw [show 3 + (e + 1) = 4 + e by omega]
        exact hy z (List.mem_cons_of_mem _ hz)
      · rw [List.mem_singleton.mp hz, show 4 + (e + 1) = (4 + e) + 1 by omega]
        exact th3_and (by omega) (th3_le (hx d1 List.mem_cons_self) (by omega)) (hy d2 List.mem_cons_self)
      · rw [List.length_cons, List.length_nil]
        exact half hw (by omega)
    | cons x2 xs =>
      injection e2 with e1 e2
      subst e1 e2
      refine ⟨e, xs, ys ++ [.tup [.str wd, d1, d2]], by exact List.append_assoc xs ys _, fun z hz => hx z (List.mem_cons_of_mem _ (List.mem_cons_of_mem _ hz)), fun z hz => ?_, le, ?_⟩
      · rcases List.mem_append.mp hz with hz | hz
        · exact hy z hz
        · rw [List.mem_singleton.mp hz, show 4 + e = (3 + e) + 1 by omega]
          exact th3_and (by omega) (hx d1 List.mem_cons_self) (hx d2 (List.mem_cons_of_mem _ List.mem_cons_self))
      · rw [List.length_append, List.length_singleton]
        rw [List.length_cons, List.length_cons] at hw
        refine Nat.le_trans (Nat.le_of_eq ?_) hw
        congr 1
        omega
theorem cut2n {a b : V} {xs : List V} : cutV (a :: b :: xs) (some 2) none = xs := by
  unfold cutV
  rw [HT.sIx_none, show HT.sIx (a :: b :: xs).length 0 (some 2) = 2 by rw [show (2 : Int) = ((2 : Nat) : Int) from rfl, HT.sIx_nat]; simp]
  simp
def spGt : Sp := fun vs H Q _ => ∃ (p : Addr) (k : Str), vs = [.ref p, .str k] ∧ StA H p ∧ k.length ≤ 1000 ∧ ∀ (v : V) (t : D) H', ButS p H H' → StA H' p → DS [p] H' v t → dh 62 t → cnt 62 t < 1000000 → Q v H'
abbrev sGt : Stmt := top 62
abbrev nGt : List Str := ["_law_state_here", "_law_kind", "_law_thing", "_law_k", "_law_some"]
abbrev pGt : List Str := ["_law_state_here", "_law_kind"]
theorem scGt : FnScope nGt pGt (defScope sGt) := ⟨rfl, rfl, rfl, by decide +kernel, rfl, by decide +kernel, by decide +kernel⟩
section
variable {P : Program} {w : World} {K : PySem.W.Frag} {mg : Str → Option Value} {base : Heap} {f fe : Addr} {fd de : FuncData}
theorem ok_great (F : Fun K "_law_great" "_law_great" sGt f fd) (X : TxQ mg) (Y : KD.TxtL mg)
    (Cd : Cal K mg "_law_draw" ["_law_state_here", "_law_many"] fe de) (hd : ∀ k, FnOk P w K mg base CX0 (1 + k) fe de ["_law_state_here", "_law_many"] spDraw) (k : Nat) : FnOk P w K mg base CX0 (2 + k) f fd pGt spGt := by
  rw [show 2 + k = (1 + k) + 1 by omega]
  refine F.ok scGt (fun vs H Q E h => ?_) (fun cdv A0 outer s H vs Q E hr hq => ?_)
  · obtain ⟨p, k, rfl, _⟩ := h
    rfl
  obtain ⟨p, kd, rfl, hp, lk, kq⟩ := hq
  refine ⟨_, /-TG-/(pss_cons (ps_set (i := 2) scGt.nd rfl (Or.inl rfl) (pe_tup (pa_cons pe_str (pa_cons (pe_ix ix_list (pe_lst (pa_cons (pe_tup (pa_cons pe_str (pa_cons pe_int pa_nil))) (pa_cons (pe_tup (pa_cons pe_str (pa_cons pe_str (pa_cons (pv 1) pa_nil)))) pa_nil))) (pe_call (hd 0) (hr.mono (by omega)) rfl Cd.m Cd.kp Cd.b .nil pass0 (pa_cons (pv 0) (pa_cons pe_int pa_nil))) (fun _ _ => rfl)) (pa_cons (pe_tup (pa_cons pe_str (pa_cons pe_str (pa_cons (pv 1) pa_nil)))) pa_nil)))))
      (pss_cons (ps_if (pt_cmpR op_eq (pe_call (hd 0) (hr.mono (by omega)) rfl Cd.m Cd.kp Cd.b .nil pass0 (pa_cons (pv 0) (pa_cons pe_int pa_nil))) pe_int (nomark _)) (pss_cons (ps_for PassesOwn.never rfl (pi_range1 rfl Y.rng (pa_cons (pe_op op_add pe_int (pe_call (hd 0) (hr.mono (by omega)) rfl Cd.m Cd.kp Cd.b .nil pass0 (pa_cons (pv 0) (pa_cons pe_int pa_nil)))) pa_nil)) (pg_name (i := 3) scGt.nd rfl (Or.inl rfl)) (pss_one
        (ps_set (i := 2) scGt.nd rfl (Or.inl rfl) (pe_tup (pa_cons pe_str (pa_cons (pv 2) pa_nil))))))
      (pss_one
        (ps_ret (pv 2)))) pss_nil)
      (pss_cons (ps_set (i := 4) scGt.nd rfl (Or.inl rfl) (pe_op op_cat (pe_lst (pa_cons (pv 2) pa_nil)) (pe_lc (own := [("_law_k", 3)]) (g := gName 3) (tt := tYes) rfl scGt.nd (pi_range1 rfl Y.rng (pa_cons (pe_op op_add pe_int (pe_call (hd 0) (hr.mono (by omega)) rfl Cd.m Cd.kp Cd.b .nil pass0 (pa_cons (pv 0) (pa_cons pe_int pa_nil)))) pa_nil)) (blkOk_by (N := nGt) (sc := defScope sGt) (by decide +kernel)) (fun _ _ _ _ _ => pg_name (i := 3) scGt.nd rfl (Or.inl rfl)) (fun _ _ _ _ _ => pts_nil) (fun _ _ _ _ _ => (pe_tup (pa_cons pe_str pa_nil))))))
      (pss_cons (ps_while PassesOwn.never (pt_cmpR op_gt (pe_callB call_len_seq (by rfl) X.len PySem.boot_len (pa_cons (pv 4) pa_nil)) pe_int (nomark _)) (pss_one
        (ps_set (i := 4) scGt.nd rfl (Or.inl rfl) (pe_op op_cat (pe_slice sl_list (pv 4) (po_some pe_int) po_none) (pe_lst (pa_cons (pe_tup (pa_cons (pe_ix ix_list (pe_lst (pa_cons pe_str (pa_cons pe_str (pa_cons pe_str pa_nil)))) (pe_op op_mod (pe_callB call_len_seq (by rfl) X.len PySem.boot_len (pa_cons (pv 4) pa_nil)) pe_int) (fun _ _ => rfl)) (pa_cons (pe_ix ix_list (pv 4) pe_int (fun _ _ => rfl)) (pa_cons (pe_ix ix_list (pv 4) pe_int (fun _ _ => rfl)) pa_nil)))) pa_nil))))))
      (pss_one
        (ps_ret (pe_ix ix_list (pv 4) pe_int (fun _ _ => rfl))))))))/-TGE-/, ?_⟩
  -- the sides
  have m1 : [V.str "bound", V.int 0].length ≤ sizeLine := by simp; decide
  refine ⟨by simp; decide, fun a1 ha1 => ?_⟩
  have st1 : Same H (upd H a1 (.tup [V.str "bound", V.int 0])) := KD.Same.upd ha1
  have n1 := not1 hp ha1
  have p1 := hp.same st1
  have b1 : ButS p H (upd H a1 (.tup [V.str "bound", V.int 0])) := KD.Same.but st1
  have h1 : upd H a1 (.tup [V.str "bound", V.int 0]) a1 = some (.tup [V.str "bound", V.int 0]) := upd_same
  generalize upd H a1 (.tup [V.str "bound", V.int 0]) = H1 at st1 p1 b1 h1 ⊢
  refine ⟨_, rfl, by simp; decide, fun a2 ha2 => ?_⟩
  have st2 : Same H1 (upd H1 a2 (.tup [V.str "name", V.str "x", V.str kd])) := KD.Same.upd ha2
  have n2 := not1 p1 ha2
  have p2 := p1.same st2
  have b2 := b1.same st2
  have h2 : upd H1 a2 (.tup [V.str "name", V.str "x", V.str kd]) a2 = some (.tup [V.str "name", V.str "x", V.str kd]) := upd_same
  generalize upd H1 a2 (.tup [V.str "name", V.str "x", V.str kd]) = H2 at st2 p2 b2 h2 ⊢
  refine ⟨by simp; decide, fun a3 ha3 => ?_⟩
  have st3 : Same H2 (upd H2 a3 (.lst [V.ref a1, V.ref a2])) := KD.Same.upd ha3
  have n3 := not1 p2 ha3
  have p3 := p2.same st3
  have b3 := b2.same st3
  have h3 : upd H2 a3 (.lst [V.ref a1, V.ref a2]) a3 = some (.lst [V.ref a1, V.ref a2]) := upd_same
  have dd : DSL [p] (upd H2 a3 (.lst [V.ref a1, V.ref a2])) [V.ref a1, V.ref a2] [.tup [.str "bound", .int 0], .tup [.str "name", .str "x", .str kd]] :=
    .cons (.tup n1 (st3 _ _ (st2 _ _ h1)) (.cons (.str (by decide)) (.cons .int .nil))) (.cons (.tup n2 (st3 _ _ h2) (.cons (.str (by decide)) (.cons (.str (by decide)) (.cons (.str lk) .nil)))) .nil)
  generalize upd H2 a3 (.lst [V.ref a1, V.ref a2]) = H3 at st3 p3 b3 h3 dd ⊢
  refine ⟨_, rfl, p, 2, rfl, p3, by decide, by decide, fun r H4 lr b34 p4 => ?_⟩
  have b4 := b3.trans b34
  obtain ⟨v0, hv0⟩ : ∃ v, [V.ref a1, V.ref a2][r]? = some v := ⟨_, List.getElem?_eq_getElem (by simpa using lr)⟩
  obtain ⟨d0, hd0, dS0⟩ := dd.get hv0
  have hd0' : th3 2 d0 := by
    rcases List.mem_cons.mp (List.mem_of_getElem? hd0) with rfl | hz
    · exact ⟨by simp, fun x hx => by simp at hx; rcases hx with rfl | rfl <;> trivial⟩
    · rw [List.mem_singleton.mp hz]
      exact ⟨by simp, fun x hx => by simp at hx; rcases hx with rfl | rfl | rfl <;> trivial⟩
  have k34 := kp_but b34
  refine ⟨_, _, _, _, rfl, rfl, SqL.of (k34 _ _ n3 h3), atI_nat hv0, _, rfl, by simp; decide, fun a5 ha5 => ?_⟩
  have n5 := not1 p4 ha5
  have st5 : Same H4 (upd H4 a5 (.tup [V.str "name", V.str "yy", V.str kd])) := KD.Same.upd ha5
  have h5 : upd H4 a5 (.tup [V.str "name", V.str "yy", V.str kd]) a5 = some (.tup [V.str "name", V.str "yy", V.str kd]) := upd_same
  have p5 := p4.same st5
  have b5 := b4.same st5
  generalize upd H4 a5 (.tup [V.str "name", V.str "yy", V.str kd]) = H5 at st5 h5 p5 b5 ⊢
  refine ⟨by simp; decide, fun a6 ha6 => ?_⟩
  have n6 := not1 p5 ha6
  have st6 : Same H5 (upd H5 a6 (.tup [V.str "same", v0, V.ref a5])) := KD.Same.upd ha6
  have p6 := p5.same st6
  have b6 := b5.same st6
  have dS : DS [p] (upd H5 a6 (.tup [V.str "same", v0, V.ref a5])) (.ref a6) (.tup [.str "same", d0, .tup [.str "name", .str "yy", .str kd]]) := .tup n6 upd_same (.cons (.str (by decide)) (.cons (dS0.mono (k34.trans (Kp.same fun x o e => st6 _ _ (st5 _ _ e)))) (.cons (.tup n5 (st6 _ _ h5) (.cons (.str (by decide)) (.cons (.str (by decide)) (.cons (.str lk) .nil)))) .nil)))
  have hD : th3 3 (.tup [.str "same", d0, .tup [.str "name", .str "yy", .str kd]]) := th3_and (by decide) hd0' ⟨by simp, fun x hx => by simp at hx; rcases hx with rfl | rfl | rfl <;> trivial⟩
  generalize upd H5 a6 (.tup [V.str "same", v0, V.ref a5]) = H6 at p6 b6 dS ⊢
  generalize (D.tup [.str "same", d0, .tup [.str "name", .str "yy", .str kd]]) = t0 at dS hD
  clear dd h1 h2 h3 h5 b34 k34 st1 st2 st3 st5 st6 dS0
  -- nots or joints
  refine ⟨_, rfl, p, 2, rfl, p6, by decide, by decide, fun r H7 lr b67 p7 => ?_⟩
  have b7 := b6.trans b67
  have dS7 := dS.mono (kp_but b67)
  refine ⟨rfl, _, rfl, ite2 (fun e => ?_) (fun e => ?_)⟩
  · -- nots
    clear e
    refine ⟨_, rfl, p, 23, rfl, p7, by decide, by decide, fun r2 H8 lr2 b78 p8 => ?_⟩
    have b8 := b7.trans b78
    have dS8 := dS7.mono (kp_but b78)
    refine ⟨_, _, rfl, rfl, _, rfl, by show -(2 ^ 62) ≤ (36 : Int) + (r2 : Int); omega, by show (36 : Int) + (r2 : Int) < 2 ^ 62; omega, ?_⟩
    have nn : ((36 : Int) + (r2 : Int)).toNat ≤ 58 := by omega
    refine for_range (fun i σ' H' => ∃ (v : V) (t : D) (kk : Option V), σ' = [some (V.ref p), some (V.str kd), some v, kk, none] ∧ ButS p H H' ∧ StA H' p ∧ DS [p] H' v t ∧ dh (3 + i) t ∧ cnt (3 + i) t ≤ 20 + 2 * i)
      ⟨_, t0, none, rfl, b8, p8, dS8, th3_dh hD, by have := th3_cnt hD; simp at this ⊢; omega⟩ (fun i σ' H' hi q => ?_) (fun σ' H' q => ?_)
    · obtain ⟨v, t, kk, rfl, bi, pi, dSi, hDi, hCi⟩ := q
      refine ⟨_, rfl, by simp; decide, fun a ha => ?_⟩
      have na := not1 pi ha
      have sa : Same H' (upd H' a (.tup [V.str "not", v])) := KD.Same.upd ha
      refine ⟨_, _, _, rfl, bi.same sa, pi.same sa, .tup na upd_same (.cons (.str (by decide)) (.cons (dSi.mono (Kp.same sa)) .nil)), ?_, ?_⟩
      rotate_left
      · show 1 + (cnt (3 + i) (.str "not") + (cnt (3 + i) t + 0)) ≤ _
        rw [show cnt (3 + i) (.str "not") = 1 by rw [show 3 + i = (2 + i) + 1 by omega]; rfl]
        omega
      show dh ((3 + i) + 1) _
      refine ⟨by simp, fun x hx => ?_⟩
      rcases List.mem_cons.mp hx with rfl | hx
      · rw [show 3 + i = (2 + i) + 1 by omega]
        trivial
      · rw [List.mem_singleton.mp hx]; exact hDi
    · obtain ⟨v, t, kk, rfl, bi, pi, dSi, hDi, hCi⟩ := q
      exact ⟨_, rfl, kq _ _ _ bi pi dSi (dh_le hDi (by omega)) (by rw [cnt_le hDi (by omega)]; omega)⟩
  · -- joints
    clear e
    refine ⟨_, rfl, by simp; decide, fun l1 hl1 => ?_⟩
    have nl1 := not1 p7 hl1
    have s8 : Same H7 (upd H7 l1 (.lst [V.ref a6])) := KD.Same.upd hl1
    have p8 := p7.same s8
    have b8 := b7.same s8
    have hl1' : upd H7 l1 (.lst [V.ref a6]) l1 = some (.lst [V.ref a6]) := upd_same
    have dS8 := dS7.mono (Kp.same s8)
    generalize upd H7 l1 (.lst [V.ref a6]) = H8 at s8 p8 b8 hl1' dS8 ⊢
    refine ⟨_, rfl, p, 240, rfl, p8, by decide, by decide, fun r2 H9 lr2 b89 p9 => ?_⟩
    have b9 := b8.trans b89
    have dS9 := dS8.mono (kp_but b89)
    have hl9 := kp_but b89 _ _ nl1 hl1'
    refine ⟨_, _, rfl, rfl, _, rfl, by show -(2 ^ 62) ≤ (64 : Int) + (r2 : Int); omega, by show (64 : Int) + (r2 : Int) < 2 ^ 62; omega, fun Dd hDd => ?_⟩
    have nn : ((64 : Int) + (r2 : Int)).toNat ≤ 303 := by omega
    have nDp := not1 p9 hDd
    refine lc_range (fun i H' => ∃ (us : List V) (ds : List D), Kp [Dd] (upd H9 Dd (.lst [])) H' ∧ H' Dd = some (.lst us) ∧ DSL [Dd, p] H' us ds ∧ us.length = i ∧ ∀ d ∈ ds, th3 3 d) ⟨[], [], .refl _, upd_same, .nil, rfl, fun d hd => nomatch hd⟩ (fun i H' hi q => ?_) (fun H' q => ?_)
    · obtain ⟨us, ds, k1, hD1, dl, ll, hds⟩ := q
      refine ⟨rfl, ?_⟩
      unfold tYes
      simp only [if_true]
      refine ⟨by simp; decide, fun a ha => ?_⟩
      have sa : Same H' (upd H' a (.tup [V.str "no"])) := KD.Same.upd ha
      have pH : StA H' p := by
        obtain ⟨a, b, e, r⟩ := p9
        exact ⟨a, b, k1 _ _ (by intro z; exact nDp (by simp at z; simp [z])) (by rw [upd_ne (ne_of_none e hDd)]; exact e), r⟩
      have na : a ∉ [Dd, p] := by
        simp [ne_of_none hD1 ha |>.symm, pH.not ha]
      refine ⟨us, sa _ _ hD1, by rw [ll]; exact Nat.lt_of_lt_of_le (show i < 1000 by omega) (by decide), us ++ [V.ref a], ds ++ [.tup [.str "no"]], (k1.trans (Kp.same sa)).trans (Kp.upd (by simp)), upd_same, ((dl.mono (Kp.same sa)).snoc (.tup na upd_same (.cons (.str (by decide)) .nil))).mono (Kp.upd (by simp)), by simp [ll], fun d hd => ?_⟩
      rcases List.mem_append.mp hd with hd | hd
      · exact hds d hd
      · rw [List.mem_singleton.mp hd]
        exact ⟨by simp, fun x hx => by rw [List.mem_singleton.mp hx]; trivial⟩
    · obtain ⟨us, ds, k1, hD1, dl, ll, hds⟩ := q
      have k9 : Kp [] H9 H' := ((Kp.new (M := [Dd]) hDd).trans k1).old hDd
      have pH : StA H' p := by
        obtain ⟨a, b, e, r⟩ := p9
        exact ⟨a, b, k9 _ _ (by simp) e, r⟩
      have bH : ButS p H H' := b9.same fun x o e => k9 _ _ (by simp) e
      refine ⟨l1, Dd, _, _, rfl, rfl, k9 _ _ (by simp) hl9, hD1, ?_, fun q hq => ?_⟩
      · rw [ll]
        exact Nat.le_trans (show [V.ref a6].length + _ ≤ 1000 by simp; omega) (by decide)
      have sq : Same H' (upd H' q (.lst ([V.ref a6] ++ us))) := KD.Same.upd hq
      have pq := pH.same sq
      have bq := bH.same sq
      have nq := not1 pH hq
      have hq' : upd H' q (.lst ([V.ref a6] ++ us)) q = some (.lst ([V.ref a6] ++ us)) := upd_same
      have dlq : DSL [p] (upd H' q (.lst ([V.ref a6] ++ us))) ([V.ref a6] ++ us) (t0 :: ds) := .cons ((dS9.mono (k9.sub (by simp))).mono (Kp.same sq)) ((dl.drop (by simp)).mono (Kp.same sq))
      have lds := dl.length
      have qi : QI (t0 :: ds) := ⟨0, t0 :: ds, [], by simp, fun x hx => by
        rcases List.mem_cons.mp hx with rfl | hx
        · exact hD
        · exact hds x hx, (fun y hy => nomatch hy), by decide, by simp; omega⟩
      have lq' : ([V.ref a6] ++ us).length ≤ 304 := by simp; omega
      have lq1' : 1 ≤ ([V.ref a6] ++ us).length := by simp
      generalize [V.ref a6] ++ us = us at hq' dlq lq' lq1' pq bq ⊢
      generalize t0 :: ds = ds at dlq qi
      generalize upd H' q (.lst us) = HQ at pq bq hq' dlq ⊢
      have W1 : 1 ≤ us.length ∧ us.length ≤ 304 := ⟨lq1', lq'⟩
      refine ⟨fun m σ' H' => ∃ (q : Addr) (us : List V) (ds : List D), σ' = [some (V.ref p), some (V.str kd), some (V.ref a6), none, some (V.ref q)] ∧ ButS p H H' ∧ StA H' p ∧ q ∉ [p] ∧ H' q = some (.lst us) ∧ DSL [p] H' us ds ∧ us.length = m ∧ 1 ≤ m ∧ m ≤ 304 ∧ QI ds,
        ⟨_, q, us, ds, rfl, bq, pq, nq, hq', dlq, rfl, W1.1, W1.2, qi⟩, fun m σ' HA hw => ?_⟩
      obtain ⟨q, us, ds, rfl, bA, pA, nq, hqA, dlA, lm, m1, m2, qi⟩ := hw
      refine ⟨_, rfl, _, _, rfl, .inl (SqL.of hqA), _, _, rfl, rfl, _, rfl, ite2 (fun e => ?_) (fun e => ?_)⟩
      · have l1 : 1 < us.length := by
          have := of_decide_eq_true e
          omega
        obtain ⟨u1, u2, us, rfl⟩ : ∃ u1 u2 u, us = u1 :: u2 :: u := by
          match us, l1 with
          | u1 :: u2 :: u, _ => exact ⟨u1, u2, u, rfl⟩
        cases dlA with
        | @cons _ _ d1 ds1 D1 dlA =>
        cases dlA with
        | @cons _ _ d2 ds D2 dlA =>
        refine ⟨fun σ' H' => ∃ (q : Addr) (us : List V) (ds : List D), σ' = [some (V.ref p), some (V.str kd), some (V.ref a6), none, some (V.ref q)] ∧ ButS p H H' ∧ StA H' p ∧ q ∉ [p] ∧ H' q = some (.lst us) ∧ DSL [p] H' us ds ∧ us.length + 1 = m ∧ QI ds, fun σ' H' hn => ?_, ?_⟩
        · obtain ⟨q, us', ds, h1, h2, h3, h4, h5, h6, h7, h8⟩ := hn
          exact ⟨us'.length, by omega, q, us', ds, h1, h2, h3, h4, h5, h6, rfl, by simp at lm; omega, by omega, h8⟩
        refine ⟨_, rfl, 2, rfl, q, _, rfl, SqL.of hqA, fun z1 hz1 => ?_⟩
        rw [(cut2 _ _ _).2]
        have s1 : Same HA (upd HA z1 (.lst us)) := KD.Same.upd hz1
        have hz1' : upd HA z1 (.lst us) z1 = some (.lst us) := upd_same
        have pB := pA.same s1
        have bB := bA.same s1
        generalize upd HA z1 (.lst us) = HB at s1 hz1' pB bB ⊢
        refine ⟨by simp; decide, fun z2 hz2 => ?_⟩
        have s2 : Same HB (upd HB z2 (.lst [V.str "and", V.str "or", V.str "so"])) := KD.Same.upd hz2
        have hz2' : upd HB z2 (.lst [V.str "and", V.str "or", V.str "so"]) z2 = some (.lst [V.str "and", V.str "or", V.str "so"]) := upd_same
        have pC := pB.same s2
        have bC := bB.same s2
        generalize upd HB z2 (.lst [V.str "and", V.str "or", V.str "so"]) = HC at s2 hz2' pC bC ⊢
        have hqC := s2 _ _ (s1 _ _ hqA)
        obtain ⟨wd, hwd, lwd⟩ : ∃ wd : Str, [V.str "and", V.str "or", V.str "so"][(u1 :: u2 :: us).length % 3]? = some (V.str wd) ∧ wd.length ≤ 1000 := by
          have : (u1 :: u2 :: us).length % 3 < 3 := Nat.mod_lt _ (by decide)
          generalize (u1 :: u2 :: us).length % 3 = j at this
          match j, this with
          | 0, _ => exact ⟨_, rfl, by decide⟩
          | 1, _ => exact ⟨_, rfl, by decide⟩
          | 2, _ => exact ⟨_, rfl, by decide⟩
        refine ⟨_, rfl, _, _, rfl, .inl (SqL.of hqC), _, _, rfl, rfl, (by show (0:Int) < 3; decide), _, _, _, _, rfl, congrArg V.int (show _ = (((u1 :: u2 :: us).length % 3 : Nat) : Int) from by omega), SqL.of hz2', atI_nat hwd, ?_⟩
        refine ⟨_, rfl, _, _, _, _, rfl, rfl, SqL.of hqC, atI_nat (j := 0) rfl, _, rfl, _, _, _, _, rfl, rfl, SqL.of hqC, atI_nat (j := 1) rfl, by simp; decide, fun z3 hz3 => ?_⟩
        have n3 := not1 pC hz3
        have s3 : Same HC (upd HC z3 (.tup [V.str wd, u1, u2])) := KD.Same.upd hz3
        have pE := pC.same s3
        have bE := bC.same s3
        have s03 : Same HA (upd HC z3 (.tup [V.str wd, u1, u2])) := (s1.trans s2).trans s3
        have dE : DS [p] (upd HC z3 (.tup [V.str wd, u1, u2])) (.ref z3) (.tup [.str wd, d1, d2]) := .tup n3 upd_same (.cons (.str lwd) (.cons (D1.mono (Kp.same s03)) (.cons (D2.mono (Kp.same s03)) .nil)))
        have hz1E := s3 _ _ (s2 _ _ hz1')
        generalize upd HC z3 (.tup [V.str wd, u1, u2]) = HE at pE bE s03 dE hz1E ⊢
        refine ⟨by simp; decide, fun z4 hz4 => ?_⟩
        have s4 : Same HE (upd HE z4 (.lst [V.ref z3])) := KD.Same.upd hz4
        have hz4' : upd HE z4 (.lst [V.ref z3]) z4 = some (.lst [V.ref z3]) := upd_same
        have pF := pE.same s4
        have bF := bE.same s4
        generalize upd HE z4 (.lst [V.ref z3]) = HF at s4 hz4' pF bF ⊢
        refine ⟨z1, z4, _, _, rfl, rfl, s4 _ _ hz1E, hz4', ?_, fun z5 hz5 => ?_⟩
        · simp only [List.length_cons, List.length_nil] at lm ⊢
          exact Nat.le_trans (show us.length + 1 ≤ 1000 by omega) (by decide)
        have s5 : Same HF (upd HF z5 (.lst (us ++ [V.ref z3]))) := KD.Same.upd hz5
        exact ⟨z5, _, _, rfl, bF.same s5, pF.same s5, not1 pF hz5, upd_same, ((dlA.mono (Kp.same s03)).snoc dE).mono (Kp.same (s4.trans s5)), by simp at lm ⊢; omega, qi.step⟩
      · have l1 : us.length = 1 := by
          have : ¬ ((1 : Int) < (us.length : Nat)) := of_decide_eq_false (by simpa using e)
          omega
        obtain ⟨u, rfl⟩ := List.length_eq_one_iff.mp l1
        cases dlA with
        | @cons _ _ d1 ds1 D1 dlA =>
        cases dlA
        exact ⟨_, rfl, _, _, _, _, rfl, rfl, SqL.of hqA, atI_nat (j := 0) rfl, kq _ _ _ bA pA D1 (dh_le (th3_dh qi.one) (by decide)) (by rw [cnt_le (th3_dh qi.one) (by decide)]; have := th3_cnt qi.one; rw [show 3 ^ 12 = 531441 by decide] at this; omega)⟩
end
end Q3

/-! LW9: _law_by. -/
namespace Q3
open PySem PySem.Spec PyProof.Rows L2 GenW GxR NdefX GX
open KD (top StA ButS spDraw FAt Each RowG rLenK)
open KM (G)
theorem call_lenR {X : Cx} : CallR X (.builtin "len") (fun xs H Q => ∃ a kvs, xs = [V.ref a] ∧ Rd H a (.dK kvs) ∧ Q (.int (List.length kvs)) H) := by
  intro pins s σ H xs us Q I r h
  obtain ⟨a, kvs, rfl, ha, q⟩ := h
  obtain ⟨u, rfl, ru⟩ := vals1 r
  cases ru
  exact d_len I ha fun t s' I' => ⟨.int kvs.length, H, I', ⟨t, rfl⟩, q⟩
theorem boot_listT : bootBuiltins "list" = some (.type "list") := by decide +kernel
theorem keys_rows {M : List Addr} {H : Hp} : ∀ {kvs : List (L2.Key × V)} {rows : List KD.Row}, Each (FAt M H) kvs rows → kvs.map (fun kv => kV kv.1) = rows.map fun r => V.str r.1
  | _, _, .nil => rfl
  | _, _, .cons a b => by
    obtain ⟨x, tk, e, h⟩ := a
    rw [List.map_cons, List.map_cons, keys_rows b, e]
    rfl
theorem Each.len {α β : Type} {R : α → β → Prop} : ∀ {xs : List α} {ys : List β}, Each R xs ys → xs.length = ys.length
  | _, _, .nil => rfl
  | _, _, .cons _ b => congrArg (· + 1) (Each.len b)
theorem pick_at {K : PySem.W.Frag} {σ : L2.St} {H : Hp} {Qe : VK} {p q : Addr} {lv : List V} {i j : Nat} (h0 : σ[j]? = some (some (V.ref p))) (h1 : σ[i]? = some (some (V.ref q))) (hp : StA H p) (hq : H q = some (.lst lv)) (nq : q ≠ p) (l1 : 0 < lv.length) (l2 : lv.length ≤ 1000)
    (k : ∀ v H', v ∈ lv → ButS p H H' → StA H' p → Qe v H') : (tOp (rIxL K) (tVar i) (tCall spDraw [] E0 (tCons (tVar j) (tCons (tCB (rLenK K) (tCons (tVar i) tNil)) tNil)))) σ H Qe := by
  refine ⟨_, h1, _, h0, _, h1, _, _, rfl, .inl (SqL.of hq), p, lv.length, rfl, hp, l1, by omega, fun r H2 l b2 p2 => ?_⟩
  obtain ⟨v, hv⟩ : ∃ v, lv[r]? = some v := ⟨_, List.getElem?_eq_getElem l⟩
  exact ⟨_, _, _, _, rfl, rfl, SqL.of (b2 _ _ nq hq), atI_nat hv, k v H2 (List.mem_of_getElem? hv) b2 p2⟩
/-- where a drawing stands -/
structure Stt (M : List Addr) (p : Addr) (H0 H : Hp) : Prop where
  al : ∀ x ∈ M, H x ≠ none
  st : StA H p
  b : ButS p H0 H
theorem Stt.not {M : List Addr} {p : Addr} {H0 H : Hp} (T : Stt M p H0 H) {a : Addr} (e : H a = none) : a ∉ M := fun z => T.al a z e
theorem Stt.same {M : List Addr} {p : Addr} {H0 H H1 : Hp} (T : Stt M p H0 H) (s : Same H H1) : Stt M p H0 H1 := ⟨fun x hx z => (by
  cases e : H x with
  | none => exact T.al x hx e
  | some o => rw [s _ _ e] at z; exact nomatch z), T.st.same s, T.b.same s⟩
theorem Stt.new {M : List Addr} {p : Addr} {H0 H : Hp} (T : Stt M p H0 H) {a : Addr} {o : HO} (e : H a = none) : Stt M p H0 (upd H a o) := T.same (KD.Same.upd e)
theorem Stt.but {M : List Addr} {p : Addr} {H0 H H1 : Hp} (T : Stt M p H0 H) (b : ButS p H H1) (s : StA H1 p) : Stt M p H0 H1 := ⟨fun x hx z => (by
  by_cases n : x = p
  · obtain ⟨_, _, e, _⟩ := s
    rw [n, e] at z
    exact nomatch z
  · cases e : H x with
    | none => exact T.al x hx e
    | some o => rw [b _ _ n e] at z; exact nomatch z), s, T.b.trans b⟩
theorem kp_bM {M : List Addr} {p : Addr} {H H1 : Hp} (b : ButS p H H1) (hp : p ∈ M) : Kp M H H1 := fun x o n e => b x o (fun z => n (by rw [z]; exact hp)) e
/-- things none of which is high -/
def GoodL (M : List Addr) (H : Hp) (us : List V) : Prop := ∃ ds, DSL M H us ds ∧ ∀ d ∈ ds, dh 4 d
theorem GoodL.nil {M : List Addr} {H : Hp} : GoodL M H [] := ⟨[], .nil, fun d h => nomatch h⟩
theorem GoodL.cons {M : List Addr} {H : Hp} {v : V} {d : D} {us : List V} (h : DS M H v d) (hd : dh 4 d) (g : GoodL M H us) : GoodL M H (v :: us) := by
  obtain ⟨ds, a, b⟩ := g
  refine ⟨d :: ds, .cons h a, fun e he => ?_⟩
  rcases List.mem_cons.mp he with rfl | he
  · exact hd
  · exact b e he
theorem GoodL.mono {M : List Addr} {H H1 : Hp} {us : List V} (g : GoodL M H us) (k : Kp M H H1) : GoodL M H1 us := by
  obtain ⟨ds, a, b⟩ := g
  exact ⟨ds, a.mono k, b⟩
theorem GoodL.app {M : List Addr} {H : Hp} {us vs : List V} (g : GoodL M H us) (h : GoodL M H vs) : GoodL M H (us ++ vs) := by
  obtain ⟨ds, a, b⟩ := g
  obtain ⟨es, c, e⟩ := h
  refine ⟨ds ++ es, a.app c, fun x hx => ?_⟩
  rcases List.mem_append.mp hx with hx | hx
  · exact b x hx
  · exact e x hx
theorem GoodL.get {M : List Addr} {H : Hp} {us : List V} (g : GoodL M H us) {i : Nat} {v : V} (h : us[i]? = some v) : ∃ d, DS M H v d ∧ dh 4 d := by
  obtain ⟨ds, a, b⟩ := g
  obtain ⟨d, hd, e⟩ := a.get h
  exact ⟨d, e, b d (List.mem_of_getElem? hd)⟩
theorem dh_flat {ds : List D} (l : ds.length ≤ 3) (h : ∀ x ∈ ds, x.isT = false ∨ x = .tup []) : dh 4 (.tup ds) := ⟨by omega, fun x hx => by
  rcases h x hx with e | rfl
  · cases x <;> first | trivial | exact nomatch e
  · exact ⟨by decide, fun y hy => nomatch hy⟩⟩
def spBy (h : Nat) : Sp := fun vs H Q _ => ∃ (M : List Addr) (p d kl : Addr) (v : V) (t : D) (kn : List Str) (rows : List KD.Row), vs = [.ref p, v, .ref d, .ref kl] ∧ p ∈ M ∧ (∀ x ∈ M, H x ≠ none) ∧ StA H p ∧ DS M H v t ∧ dh h t ∧ 4 ≤ h ∧ cnt h t < 1000000 ∧ LwM M H d kl kn rows ∧ 1 ≤ kn.length ∧ kn.length ≤ 1000 ∧ rows.length ≤ 100 ∧ ∀ (v' : V) (t' : D) H', ButS p H H' → StA H' p → DS M H' v' t' → dh h t' → Q v' H'
abbrev sBy : Stmt := top 59
abbrev nBy : List Str := ["_law_state_here", "_law_thing", "_law_makes_here", "_law_kinds_here", "_law_kind", "_law_f", "_law_some", "_law_way"]
abbrev pBy : List Str := ["_law_state_here", "_law_thing", "_law_makes_here", "_law_kinds_here"]
theorem scBy : FnScope nBy pBy (defScope sBy) := ⟨rfl, rfl, rfl, by decide +kernel, rfl, by decide +kernel, by decide +kernel⟩
section
variable {P : Program} {w : World} {K : PySem.W.Frag} {mg : Str → Option Value} {base : Heap} {f fe fa fc : Addr} {fd de da dc : FuncData}
theorem ok_by (F : Fun K "_law_by" "_law_by" sBy f fd) (X : TxQ mg)
    (Cd : Cal K mg "_law_draw" ["_law_state_here", "_law_many"] fe de) (hd : ∀ k, FnOk P w K mg base CX0 (1 + k) fe de ["_law_state_here", "_law_many"] spDraw)
    (Ca : Cal K mg "_law_at" ["_law_thing", "_law_left"] fa da) (ha : ∀ h, FnOk P w K mg base CX0 (1 + h) fa da ["_law_thing", "_law_left"] (spAt h))
    (Cc : Cal K mg "_law_count" ["_law_thing"] fc dc) (hc : ∀ h, FnOk P w K mg base CX0 (1 + h) fc dc ["_law_thing"] (spCt h)) (h : Nat) : FnOk P w K mg base CX0 (2 + h) f fd pBy (spBy h) := by
  rw [show 2 + h = (1 + h) + 1 by omega]
  refine F.ok scBy (fun vs H Q E h => ?_) (fun cdv A0 outer s H vs Q E hr hq => ?_)
  · obtain ⟨M, p, d, kl, v, t, kn, rows, rfl, _⟩ := h
    rfl
  obtain ⟨M, p, d, kl, v, t, kn, rows, rfl, hpM, hM, hp, hv, hh, h4, hct, hL, kn1, kn2, lr, kq⟩ := hq
  refine ⟨_, /-TG-/(pss_cons (ps_set (i := 4) scBy.nd rfl (Or.inl rfl) (pe_ix ix_list (pv 3) (pe_call (hd 0) (hr.mono (by omega)) rfl Cd.m Cd.kp Cd.b .nil pass0 (pa_cons (pv 0) (pa_cons (pe_callB call_len_seq (by rfl) X.len PySem.boot_len (pa_cons (pv 3) pa_nil)) pa_nil))) (fun _ _ => rfl)))
      (pss_cons (ps_set (i := 5) scBy.nd rfl (Or.inl rfl) (pe_ix ix_list (pe_op op_cat (pe_callTy (call_listD rfl) (by rfl) X.lst boot_listT (pa_cons (pv 2) pa_nil)) (pe_lst (pa_cons pe_str pa_nil))) (pe_call (hd 0) (hr.mono (by omega)) rfl Cd.m Cd.kp Cd.b .nil pass0 (pa_cons (pv 0) (pa_cons (pe_op op_add (pe_callB call_lenR (by rfl) X.len PySem.boot_len (pa_cons (pv 2) pa_nil)) pe_int) pa_nil))) (fun _ _ => rfl)))
      (pss_cons (ps_set (i := 6) scBy.nd rfl (Or.inl rfl) (pe_lst (pa_cons pe_non (pa_cons pe_bl (pa_cons pe_int (pa_cons pe_int (pa_cons (pe_un un_neg pe_int) (pa_cons pe_int (pa_cons pe_str (pa_cons pe_str (pa_cons pe_str (pa_cons pe_str (pa_cons pe_str (pa_cons (pv 4) (pa_cons (pv 5) (pa_cons (pe_tup pa_nil) (pa_cons (pe_lst pa_nil) (pa_cons pe_dnewK (pa_cons (pe_tup (pa_cons pe_str pa_nil)) (pa_cons (pe_lst (pa_cons pe_str pa_nil)) (pa_cons (pe_tup (pa_cons pe_str (pa_cons pe_str pa_nil))) pa_nil)))))))))))))))))))))
      (pss_cons (ps_set (i := 6) scBy.nd rfl (Or.inl rfl) (pe_op op_cat (pv 6) (pe_lst (pa_cons (pe_tup (pa_cons pe_str (pa_cons pe_int pa_nil))) (pa_cons (pe_tup (pa_cons pe_str (pa_cons pe_int pa_nil))) (pa_cons (pe_tup (pa_cons pe_str (pa_cons pe_bl pa_nil))) (pa_cons (pe_tup (pa_cons pe_str (pa_cons (pe_un un_neg pe_int) pa_nil))) pa_nil)))))))
      (pss_cons (ps_set (i := 6) scBy.nd rfl (Or.inl rfl) (pe_op op_cat (pv 6) (pe_lst (pa_cons (pe_tup (pa_cons pe_str (pa_cons pe_str (pa_cons (pv 4) pa_nil)))) (pa_cons (pe_tup (pa_cons pe_str (pa_cons pe_str (pa_cons (pv 4) pa_nil)))) (pa_cons (pe_tup (pa_cons pe_str (pa_cons (pv 5) (pa_cons (pe_tup pa_nil) pa_nil)))) pa_nil))))))
      (pss_cons (ps_set (i := 7) scBy.nd rfl (Or.inl rfl) (pe_call (hd 0) (hr.mono (by omega)) rfl Cd.m Cd.kp Cd.b .nil pass0 (pa_cons (pv 0) (pa_cons (pe_op op_mul pe_int (pe_callB call_len_seq (by rfl) X.len PySem.boot_len (pa_cons (pv 6) pa_nil))) pa_nil))))
      (pss_cons (ps_if (pt_cmpR op_lt (pv 7) (pe_callB call_len_seq (by rfl) X.len PySem.boot_len (pa_cons (pv 6) pa_nil)) (nomark _)) (pss_one
        (ps_ret (pe_ix ix_list (pv 6) (pv 7) (fun _ _ => rfl)))) pss_nil)
      (pss_one
        (ps_ret (pe_ix ix_list (pe_call (ha h) (hr.mono (by omega)) rfl Ca.m Ca.kp Ca.b .nil pass0 (pa_cons (pv 1) (pa_cons (pe_lst (pa_cons (pe_call (hd 0) (hr.mono (by omega)) rfl Cd.m Cd.kp Cd.b .nil pass0 (pa_cons (pv 0) (pa_cons (pe_call (hc h) (hr.mono (by omega)) rfl Cc.m Cc.kp Cc.b .nil pass0 (pa_cons (pv 1) pa_nil)) pa_nil))) pa_nil)) pa_nil))) pe_int (fun _ _ => rfl)))))))))))/-TGE-/, ?_⟩
  have T : Stt M p H H := ⟨hM, hp, .refl H⟩
  have lw := hL
  obtain ⟨⟨ndM, od, kvs, hd0, fk⟩, nd, ⟨nkM, hk⟩, hg, hr0⟩ := hL
  have ekv := keys_rows fk
  have lkv := Each.len fk
  have ndp : d ≠ p := fun e => ndM (by rw [e]; exact hpM)
  have nkp : kl ≠ p := fun e => nkM (by rw [e]; exact hpM)
  -- a kind
  refine pick_at rfl rfl hp hk nkp (by rw [List.length_map]; exact kn1) (by rw [List.length_map]; exact kn2) fun v1 H1 hv1 b1 p1 => ?_
  obtain ⟨kd, hkd, rfl⟩ := List.mem_map.mp hv1
  have gkd := hg kd hkd
  have T1 := T.but b1 p1
  have hd1 := b1 _ _ ndp hd0
  -- a maker, a work, or another word
  refine ⟨_, rfl, d, kvs, rfl, .inr ⟨od, hd1⟩, fun z1 hz1 => ?_⟩
  rw [ekv]
  have s2 : Same H1 (upd H1 z1 (.lst (rows.map fun r => V.str r.1))) := KD.Same.upd hz1
  have T2 := T1.new (o := .lst (rows.map fun r => V.str r.1)) hz1
  have nz1 := T1.not hz1
  have hz1' : upd H1 z1 (.lst (rows.map fun r => V.str r.1)) z1 = some (.lst (rows.map fun r => V.str r.1)) := upd_same
  generalize upd H1 z1 (.lst (rows.map fun r => V.str r.1)) = H2 at s2 T2 hz1' ⊢
  refine ⟨by simp; decide, fun z2 hz2 => ?_⟩
  have s3 : Same H2 (upd H2 z2 (.lst [V.str "qq"])) := KD.Same.upd hz2
  have T3 := T2.new (o := .lst [V.str "qq"]) hz2
  have hz2' : upd H2 z2 (.lst [V.str "qq"]) z2 = some (.lst [V.str "qq"]) := upd_same
  generalize upd H2 z2 (.lst [V.str "qq"]) = H3 at s3 T3 hz2' ⊢
  refine ⟨z1, z2, _, _, rfl, rfl, s3 _ _ hz1', hz2', ?_, fun z3 hz3 => ?_⟩
  · rw [List.length_map]
    exact Nat.le_trans (show rows.length + 1 ≤ 1000 by omega) (by decide)
  have s4 : Same H3 (upd H3 z3 (.lst ((rows.map fun r => V.str r.1) ++ [V.str "qq"]))) := KD.Same.upd hz3
  have T4 := T3.new (o := .lst ((rows.map fun r => V.str r.1) ++ [V.str "qq"])) hz3
  have nz3 := T3.not hz3
  have hz3' : upd H3 z3 (.lst ((rows.map fun r => V.str r.1) ++ [V.str "qq"])) z3 = some (.lst ((rows.map fun r => V.str r.1) ++ [V.str "qq"])) := upd_same
  generalize upd H3 z3 (.lst ((rows.map fun r => V.str r.1) ++ [V.str "qq"])) = H4 at s4 T4 hz3' ⊢
  have s14 : Same H1 H4 := (s2.trans s3).trans s4
  refine ⟨_, rfl, _, rfl, d, kvs, rfl, .inr ⟨od, s14 _ _ hd1⟩, _, _, rfl, rfl, p, kvs.length + 1, rfl, T4.st, by omega, by omega, fun r H5 lr5 b5 p5 => ?_⟩
  have T5 := T4.but b5 p5
  obtain ⟨vf, hvf⟩ : ∃ v, ((rows.map fun r => V.str r.1) ++ [V.str "qq"])[r]? = some v := ⟨_, List.getElem?_eq_getElem (by simp; omega)⟩
  obtain ⟨fn, rfl, lfn⟩ : ∃ fn : Str, vf = V.str fn ∧ fn.length ≤ 1000 := by
    rcases List.mem_append.mp (List.mem_of_getElem? hvf) with h | h
    · obtain ⟨r, hr, rfl⟩ := List.mem_map.mp h
      refine ⟨_, rfl, ?_⟩
      have := (hr0 r hr).1.1.1
      have e : r.1.cps.toList.length = r.1.length := by
        rw [Array.length_toList]
        rfl
      omega
    · exact ⟨_, List.mem_singleton.mp h, by decide⟩
  refine ⟨_, _, _, _, rfl, rfl, SqL.of (kp_bM b5 hpM _ _ nz3 hz3'), atI_nat hvf, ?_⟩
  have lkd : kd.length ≤ 1000 := by
    have := gkd.1
    have e : kd.cps.toList.length = kd.length := by
      rw [Array.length_toList]
      rfl
    omega
  have kHX : Kp M H H5 := kp_bM T5.b hpM
  replace T := T5
  clear T1 T2 T3 T4 T5 s2 s3 s4 s14 hz1' hz2' hz3' hz1 hz2 hz3 nz1 nz3 b5 p5 b1 p1 hd1
  generalize H5 = HX at T kHX ⊢
  have Gl : GoodL M HX [] := .nil
  refine ⟨_, rfl, _, rfl, _, rfl, Nat.zero_le _, fun a1 ha1 => ?_⟩
  have A : DS M (upd HX a1 (.tup [])) (.ref a1) (.tup []) := .tup (T.not ha1) upd_same .nil
  replace Gl := GoodL.cons A (dh_flat (by decide) (by simp [D.isT])) (Gl.mono (Kp.new (M := M) (o := .tup []) ha1))
  replace kHX : Kp M H (upd HX a1 (.tup [])) := kHX.trans (Kp.new ha1)
  replace T := T.new (o := .tup []) ha1
  clear A
  generalize upd HX a1 (.tup []) = HX at T Gl kHX ⊢
  refine ⟨Nat.zero_le _, fun a2 ha2 => ?_⟩
  have A : DS M (upd HX a2 (.lst [])) (.ref a2) (.lst []) := .lst (T.not ha2) upd_same .nil
  replace Gl := GoodL.cons A (trivial) (Gl.mono (Kp.new (M := M) (o := .lst []) ha2))
  replace kHX : Kp M H (upd HX a2 (.lst [])) := kHX.trans (Kp.new ha2)
  replace T := T.new (o := .lst []) ha2
  clear A
  generalize upd HX a2 (.lst []) = HX at T Gl kHX ⊢
  refine fun a3 ha3 => ?_
  have A : DS M (upd HX a3 (.dK [])) (.ref a3) (.dct) := .dct (T.not ha3) upd_same
  replace Gl := GoodL.cons A (trivial) (Gl.mono (Kp.new (M := M) (o := .dK []) ha3))
  replace kHX : Kp M H (upd HX a3 (.dK [])) := kHX.trans (Kp.new ha3)
  replace T := T.new (o := .dK []) ha3
  clear A
  generalize upd HX a3 (.dK []) = HX at T Gl kHX ⊢
  refine ⟨by simp; decide, fun a4 ha4 => ?_⟩
  have A : DS M (upd HX a4 (.tup [V.str "no"])) (.ref a4) (.tup [.str "no"]) := .tup (T.not ha4) upd_same (.cons (.str (by decide)) .nil)
  replace Gl := GoodL.cons A (dh_flat (by decide) (by simp [D.isT])) (Gl.mono (Kp.new (M := M) (o := .tup [V.str "no"]) ha4))
  replace kHX : Kp M H (upd HX a4 (.tup [V.str "no"])) := kHX.trans (Kp.new ha4)
  replace T := T.new (o := .tup [V.str "no"]) ha4
  clear A
  generalize upd HX a4 (.tup [V.str "no"]) = HX at T Gl kHX ⊢
  refine ⟨by simp; decide, fun a5 ha5 => ?_⟩
  have A : DS M (upd HX a5 (.lst [V.str "no"])) (.ref a5) (.lst [.str "no"]) := .lst (T.not ha5) upd_same (.cons (.str (by decide)) .nil)
  replace Gl := GoodL.cons A (trivial) (Gl.mono (Kp.new (M := M) (o := .lst [V.str "no"]) ha5))
  replace kHX : Kp M H (upd HX a5 (.lst [V.str "no"])) := kHX.trans (Kp.new ha5)
  replace T := T.new (o := .lst [V.str "no"]) ha5
  clear A
  generalize upd HX a5 (.lst [V.str "no"]) = HX at T Gl kHX ⊢
  refine ⟨by simp; decide, fun a6 ha6 => ?_⟩
  have A : DS M (upd HX a6 (.tup [V.str "no", V.str "no"])) (.ref a6) (.tup [.str "no", .str "no"]) := .tup (T.not ha6) upd_same (.cons (.str (by decide)) (.cons (.str (by decide)) .nil))
  replace Gl := GoodL.cons A (dh_flat (by decide) (by simp [D.isT])) (Gl.mono (Kp.new (M := M) (o := .tup [V.str "no", V.str "no"]) ha6))
  replace kHX : Kp M H (upd HX a6 (.tup [V.str "no", V.str "no"])) := kHX.trans (Kp.new ha6)
  replace T := T.new (o := .tup [V.str "no", V.str "no"]) ha6
  clear A
  generalize upd HX a6 (.tup [V.str "no", V.str "no"]) = HX at T Gl kHX ⊢
  refine ⟨by simp; decide, fun l1 hl1 => ?_⟩
  have G1 : GoodL M HX [V.non, V.bl true, V.int 0, V.int 1, V.int (-1), V.int 2, V.str "", V.str "no", V.str "same", V.str "all", V.str "x", V.str kd, V.str fn, V.ref a1, V.ref a2, V.ref a3, V.ref a4, V.ref a5, V.ref a6] := by
    obtain ⟨ds, e1, e2⟩ := Gl
    cases e1 with
    | @cons _ _ d6 _ x6 e1 =>
    cases e1 with
    | @cons _ _ d5 _ x5 e1 =>
    cases e1 with
    | @cons _ _ d4 _ x4 e1 =>
    cases e1 with
    | @cons _ _ d3 _ x3 e1 =>
    cases e1 with
    | @cons _ _ d2 _ x2 e1 =>
    cases e1 with
    | @cons _ _ d1 _ x1 e1 =>
    cases e1
    have st : ∀ {x : Str}, x.length ≤ 1000 → DS M HX (.str x) (.str x) := fun h => .str h
    exact .cons .non trivial (.cons .bl trivial (.cons .int trivial (.cons .int trivial (.cons .int trivial (.cons .int trivial (.cons (st (by decide)) trivial (.cons (st (by decide)) trivial (.cons (st (by decide)) trivial (.cons (st (by decide)) trivial (.cons (st (by decide)) trivial (.cons (st lkd) trivial (.cons (st lfn) trivial
        (.cons x1 (e2 _ (by simp)) (.cons x2 (e2 _ (by simp)) (.cons x3 (e2 _ (by simp)) (.cons x4 (e2 _ (by simp)) (.cons x5 (e2 _ (by simp)) (.cons x6 (e2 _ (by simp)) .nil))))))))))))))))))
  have hl1' : upd HX l1 (.lst [V.non, V.bl true, V.int 0, V.int 1, V.int (-1), V.int 2, V.str "", V.str "no", V.str "same", V.str "all", V.str "x", V.str kd, V.str fn, V.ref a1, V.ref a2, V.ref a3, V.ref a4, V.ref a5, V.ref a6]) l1 = some (.lst [V.non, V.bl true, V.int 0, V.int 1, V.int (-1), V.int 2, V.str "", V.str "no", V.str "same", V.str "all", V.str "x", V.str kd, V.str fn, V.ref a1, V.ref a2, V.ref a3, V.ref a4, V.ref a5, V.ref a6]) := upd_same
  have nl1 := T.not hl1
  replace G1 := G1.mono (Kp.new (M := M) (o := .lst [V.non, V.bl true, V.int 0, V.int 1, V.int (-1), V.int 2, V.str "", V.str "no", V.str "same", V.str "all", V.str "x", V.str kd, V.str fn, V.ref a1, V.ref a2, V.ref a3, V.ref a4, V.ref a5, V.ref a6]) hl1)
  replace kHX : Kp M H (upd HX l1 (.lst [V.non, V.bl true, V.int 0, V.int 1, V.int (-1), V.int 2, V.str "", V.str "no", V.str "same", V.str "all", V.str "x", V.str kd, V.str fn, V.ref a1, V.ref a2, V.ref a3, V.ref a4, V.ref a5, V.ref a6])) := kHX.trans (Kp.new hl1)
  replace T := T.new (o := .lst [V.non, V.bl true, V.int 0, V.int 1, V.int (-1), V.int 2, V.str "", V.str "no", V.str "same", V.str "all", V.str "x", V.str kd, V.str fn, V.ref a1, V.ref a2, V.ref a3, V.ref a4, V.ref a5, V.ref a6]) hl1
  have len1 : ([V.non, V.bl true, V.int 0, V.int 1, V.int (-1), V.int 2, V.str "", V.str "no", V.str "same", V.str "all", V.str "x", V.str kd, V.str fn, V.ref a1, V.ref a2, V.ref a3, V.ref a4, V.ref a5, V.ref a6]).length = 19 := rfl
  generalize upd HX l1 (.lst [V.non, V.bl true, V.int 0, V.int 1, V.int (-1), V.int 2, V.str "", V.str "no", V.str "same", V.str "all", V.str "x", V.str kd, V.str fn, V.ref a1, V.ref a2, V.ref a3, V.ref a4, V.ref a5, V.ref a6]) = HX at T kHX hl1' G1 ⊢
  generalize [V.non, V.bl true, V.int 0, V.int 1, V.int (-1), V.int 2, V.str "", V.str "no", V.str "same", V.str "all", V.str "x", V.str kd, V.str fn, V.ref a1, V.ref a2, V.ref a3, V.ref a4, V.ref a5, V.ref a6] = u1 at hl1' G1 len1
  clear Gl
  have Gl : GoodL M HX [] := .nil
  have h6 := hl1'
  clear hl1'
  refine ⟨_, rfl, by simp; decide, fun b1 hb1 => ?_⟩
  have A : DS M (upd HX b1 (.tup [V.str "bound", V.int 0])) (.ref b1) (.tup [.str "bound", .int 0]) := .tup (T.not hb1) upd_same (.cons (.str (by decide)) (.cons .int .nil))
  replace Gl := GoodL.cons A (dh_flat (by decide) (by simp [D.isT])) (Gl.mono (Kp.new (M := M) (o := .tup [V.str "bound", V.int 0]) hb1))
  replace kHX : Kp M H (upd HX b1 (.tup [V.str "bound", V.int 0])) := kHX.trans (Kp.new hb1)
  replace h6 := KD.Same.upd (o := .tup [V.str "bound", V.int 0]) hb1 _ _ h6
  replace G1 := G1.mono (Kp.new (M := M) (o := .tup [V.str "bound", V.int 0]) hb1)
  replace T := T.new (o := .tup [V.str "bound", V.int 0]) hb1
  clear A
  generalize upd HX b1 (.tup [V.str "bound", V.int 0]) = HX at T Gl kHX G1 h6 ⊢
  refine ⟨by simp; decide, fun b2 hb2 => ?_⟩
  have A : DS M (upd HX b2 (.tup [V.str "bound", V.int 1])) (.ref b2) (.tup [.str "bound", .int 1]) := .tup (T.not hb2) upd_same (.cons (.str (by decide)) (.cons .int .nil))
  replace Gl := GoodL.cons A (dh_flat (by decide) (by simp [D.isT])) (Gl.mono (Kp.new (M := M) (o := .tup [V.str "bound", V.int 1]) hb2))
  replace kHX : Kp M H (upd HX b2 (.tup [V.str "bound", V.int 1])) := kHX.trans (Kp.new hb2)
  replace h6 := KD.Same.upd (o := .tup [V.str "bound", V.int 1]) hb2 _ _ h6
  replace G1 := G1.mono (Kp.new (M := M) (o := .tup [V.str "bound", V.int 1]) hb2)
  replace T := T.new (o := .tup [V.str "bound", V.int 1]) hb2
  clear A
  generalize upd HX b2 (.tup [V.str "bound", V.int 1]) = HX at T Gl kHX G1 h6 ⊢
  refine ⟨by simp; decide, fun b3 hb3 => ?_⟩
  have A : DS M (upd HX b3 (.tup [V.str "bound", V.bl true])) (.ref b3) (.tup [.str "bound", .bl true]) := .tup (T.not hb3) upd_same (.cons (.str (by decide)) (.cons .bl .nil))
  replace Gl := GoodL.cons A (dh_flat (by decide) (by simp [D.isT])) (Gl.mono (Kp.new (M := M) (o := .tup [V.str "bound", V.bl true]) hb3))
  replace kHX : Kp M H (upd HX b3 (.tup [V.str "bound", V.bl true])) := kHX.trans (Kp.new hb3)
  replace h6 := KD.Same.upd (o := .tup [V.str "bound", V.bl true]) hb3 _ _ h6
  replace G1 := G1.mono (Kp.new (M := M) (o := .tup [V.str "bound", V.bl true]) hb3)
  replace T := T.new (o := .tup [V.str "bound", V.bl true]) hb3
  clear A
  generalize upd HX b3 (.tup [V.str "bound", V.bl true]) = HX at T Gl kHX G1 h6 ⊢
  refine ⟨_, rfl, by simp; decide, fun b4 hb4 => ?_⟩
  have A : DS M (upd HX b4 (.tup [V.str "bound", V.int (-1)])) (.ref b4) (.tup [.str "bound", .int (-1)]) := .tup (T.not hb4) upd_same (.cons (.str (by decide)) (.cons .int .nil))
  replace Gl := GoodL.cons A (dh_flat (by decide) (by simp [D.isT])) (Gl.mono (Kp.new (M := M) (o := .tup [V.str "bound", V.int (-1)]) hb4))
  replace kHX : Kp M H (upd HX b4 (.tup [V.str "bound", V.int (-1)])) := kHX.trans (Kp.new hb4)
  replace h6 := KD.Same.upd (o := .tup [V.str "bound", V.int (-1)]) hb4 _ _ h6
  replace G1 := G1.mono (Kp.new (M := M) (o := .tup [V.str "bound", V.int (-1)]) hb4)
  replace T := T.new (o := .tup [V.str "bound", V.int (-1)]) hb4
  clear A
  generalize upd HX b4 (.tup [V.str "bound", V.int (-1)]) = HX at T Gl kHX G1 h6 ⊢
  refine ⟨by simp; decide, fun l2 hl2 => ?_⟩
  have k2 : Kp M HX (upd HX l2 (.lst [V.ref b1, V.ref b2, V.ref b3, V.ref b4])) := Kp.new hl2
  have hl2' : upd HX l2 (.lst [V.ref b1, V.ref b2, V.ref b3, V.ref b4]) l2 = some (.lst [V.ref b1, V.ref b2, V.ref b3, V.ref b4]) := upd_same
  have h62 := KD.Same.upd (o := .lst [V.ref b1, V.ref b2, V.ref b3, V.ref b4]) hl2 _ _ h6
  have T2 := T.new (o := .lst [V.ref b1, V.ref b2, V.ref b3, V.ref b4]) hl2
  refine ⟨_, l2, _, _, rfl, rfl, h62, hl2', ?_, fun l3 hl3 => ?_⟩
  · exact Nat.le_trans (show u1.length + ([V.ref b1, V.ref b2, V.ref b3, V.ref b4]).length ≤ 1000 by rw [len1]; simp) (by decide)
  generalize upd HX l2 (.lst [V.ref b1, V.ref b2, V.ref b3, V.ref b4]) = HY at k2 hl2' h62 T2 hl3 ⊢
  have k3 : Kp M HY (upd HY l3 (.lst (u1 ++ [V.ref b1, V.ref b2, V.ref b3, V.ref b4]))) := Kp.new hl3
  replace G1 : GoodL M HX (u1 ++ [V.ref b1, V.ref b2, V.ref b3, V.ref b4]) := G1.app (by
    obtain ⟨ds, e1, e2⟩ := Gl
    cases e1 with
    | @cons _ _ d4 _ x4 e1 =>
    cases e1 with
    | @cons _ _ d3 _ x3 e1 =>
    cases e1 with
    | @cons _ _ d2 _ x2 e1 =>
    cases e1 with
    | @cons _ _ d1 _ x1 e1 =>
    exact (.cons x1 (e2 _ (by simp)) (.cons x2 (e2 _ (by simp)) (.cons x3 (e2 _ (by simp)) (.cons x4 (e2 _ (by simp)) .nil)))))
  replace G1 := G1.mono (k2.trans k3)
  replace kHX := kHX.trans (k2.trans k3)
  replace T := T2.new (o := .lst (u1 ++ [V.ref b1, V.ref b2, V.ref b3, V.ref b4])) hl3
  have nl3 := T2.not hl3
  replace h6 : upd HY l3 (.lst (u1 ++ [V.ref b1, V.ref b2, V.ref b3, V.ref b4])) l3 = some (.lst (u1 ++ [V.ref b1, V.ref b2, V.ref b3, V.ref b4])) := upd_same
  have lenu2 : (u1 ++ [V.ref b1, V.ref b2, V.ref b3, V.ref b4]).length = 23 := by rw [List.length_append, len1]; rfl
  generalize upd HY l3 (.lst (u1 ++ [V.ref b1, V.ref b2, V.ref b3, V.ref b4])) = HX at T kHX h6 G1 ⊢
  generalize u1 ++ [V.ref b1, V.ref b2, V.ref b3, V.ref b4] = u2 at h6 G1 lenu2
  clear Gl k2 k3 h62 T2 hl2'
  have Gl : GoodL M HX [] := .nil
  refine ⟨_, rfl, _, rfl, by simp; decide, fun b5 hb5 => ?_⟩
  have A : DS M (upd HX b5 (.tup [V.str "name", V.str "x", V.str kd])) (.ref b5) (.tup [.str "name", .str "x", .str kd]) := .tup (T.not hb5) upd_same (.cons (.str (by decide)) (.cons (.str (by decide)) (.cons (.str lkd) .nil)))
  replace Gl := GoodL.cons A (dh_flat (by simp) (by simp [D.isT])) (Gl.mono (Kp.new (M := M) (o := .tup [V.str "name", V.str "x", V.str kd]) hb5))
  replace kHX : Kp M H (upd HX b5 (.tup [V.str "name", V.str "x", V.str kd])) := kHX.trans (Kp.new hb5)
  replace h6 := KD.Same.upd (o := .tup [V.str "name", V.str "x", V.str kd]) hb5 _ _ h6
  replace G1 := G1.mono (Kp.new (M := M) (o := .tup [V.str "name", V.str "x", V.str kd]) hb5)
  replace T := T.new (o := .tup [V.str "name", V.str "x", V.str kd]) hb5
  clear A
  generalize upd HX b5 (.tup [V.str "name", V.str "x", V.str kd]) = HX at T Gl kHX G1 h6 ⊢
  refine ⟨_, rfl, by simp; decide, fun b6 hb6 => ?_⟩
  have A : DS M (upd HX b6 (.tup [V.str "name", V.str "so", V.str kd])) (.ref b6) (.tup [.str "name", .str "so", .str kd]) := .tup (T.not hb6) upd_same (.cons (.str (by decide)) (.cons (.str (by decide)) (.cons (.str lkd) .nil)))
  replace Gl := GoodL.cons A (dh_flat (by simp) (by simp [D.isT])) (Gl.mono (Kp.new (M := M) (o := .tup [V.str "name", V.str "so", V.str kd]) hb6))
  replace kHX : Kp M H (upd HX b6 (.tup [V.str "name", V.str "so", V.str kd])) := kHX.trans (Kp.new hb6)
  replace h6 := KD.Same.upd (o := .tup [V.str "name", V.str "so", V.str kd]) hb6 _ _ h6
  replace G1 := G1.mono (Kp.new (M := M) (o := .tup [V.str "name", V.str "so", V.str kd]) hb6)
  replace T := T.new (o := .tup [V.str "name", V.str "so", V.str kd]) hb6
  clear A
  generalize upd HX b6 (.tup [V.str "name", V.str "so", V.str kd]) = HX at T Gl kHX G1 h6 ⊢
  refine ⟨_, rfl, Nat.zero_le _, fun e1 he1 => ?_⟩
  have E1 : DS M (upd HX e1 (.tup [])) (.ref e1) (.tup []) := .tup (T.not he1) upd_same .nil
  replace Gl := Gl.mono (Kp.new (M := M) (o := .tup []) he1)
  replace kHX : Kp M H (upd HX e1 (.tup [])) := kHX.trans (Kp.new he1)
  replace h6 := KD.Same.upd (o := .tup []) he1 _ _ h6
  replace G1 := G1.mono (Kp.new (M := M) (o := .tup []) he1)
  replace T := T.new (o := .tup []) he1
  generalize upd HX e1 (.tup []) = HX at T Gl kHX G1 h6 E1 ⊢
  refine ⟨by simp; decide, fun b7 hb7 => ?_⟩
  have A : DS M (upd HX b7 (.tup [V.str "made", V.str fn, V.ref e1])) (.ref b7) (.tup [.str "made", .str fn, .tup []]) := .tup (T.not hb7) upd_same (.cons (.str (by decide)) (.cons (.str lfn) (.cons (E1.mono (Kp.new hb7)) .nil)))
  replace Gl := GoodL.cons A (dh_flat (by simp) (by simp [D.isT])) (Gl.mono (Kp.new (M := M) (o := .tup [V.str "made", V.str fn, V.ref e1]) hb7))
  replace kHX : Kp M H (upd HX b7 (.tup [V.str "made", V.str fn, V.ref e1])) := kHX.trans (Kp.new hb7)
  replace h6 := KD.Same.upd (o := .tup [V.str "made", V.str fn, V.ref e1]) hb7 _ _ h6
  replace G1 := G1.mono (Kp.new (M := M) (o := .tup [V.str "made", V.str fn, V.ref e1]) hb7)
  replace T := T.new (o := .tup [V.str "made", V.str fn, V.ref e1]) hb7
  clear A
  generalize upd HX b7 (.tup [V.str "made", V.str fn, V.ref e1]) = HX at T Gl kHX G1 h6 ⊢
  refine ⟨by simp; decide, fun l4 hl4 => ?_⟩
  have k2 : Kp M HX (upd HX l4 (.lst [V.ref b5, V.ref b6, V.ref b7])) := Kp.new hl4
  have hl4' : upd HX l4 (.lst [V.ref b5, V.ref b6, V.ref b7]) l4 = some (.lst [V.ref b5, V.ref b6, V.ref b7]) := upd_same
  have h62 := KD.Same.upd (o := .lst [V.ref b5, V.ref b6, V.ref b7]) hl4 _ _ h6
  have T2 := T.new (o := .lst [V.ref b5, V.ref b6, V.ref b7]) hl4
  refine ⟨_, l4, _, _, rfl, rfl, h62, hl4', ?_, fun l5 hl5 => ?_⟩
  · exact Nat.le_trans (show u2.length + ([V.ref b5, V.ref b6, V.ref b7]).length ≤ 1000 by rw [lenu2]; simp) (by decide)
  generalize upd HX l4 (.lst [V.ref b5, V.ref b6, V.ref b7]) = HY at k2 hl4' h62 T2 hl5 ⊢
  have k3 : Kp M HY (upd HY l5 (.lst (u2 ++ [V.ref b5, V.ref b6, V.ref b7]))) := Kp.new hl5
  replace G1 : GoodL M HX (u2 ++ [V.ref b5, V.ref b6, V.ref b7]) := G1.app (by
    obtain ⟨ds, e1, e2⟩ := Gl
    cases e1 with
    | @cons _ _ d7 _ x7 e1 =>
    cases e1 with
    | @cons _ _ d6 _ x6 e1 =>
    cases e1 with
    | @cons _ _ d5 _ x5 e1 =>
    exact (.cons x5 (e2 _ (by simp)) (.cons x6 (e2 _ (by simp)) (.cons x7 (e2 _ (by simp)) .nil))))
  replace G1 := G1.mono (k2.trans k3)
  replace kHX := kHX.trans (k2.trans k3)
  replace T := T2.new (o := .lst (u2 ++ [V.ref b5, V.ref b6, V.ref b7])) hl5
  have nl3 := T2.not hl5
  replace h6 : upd HY l5 (.lst (u2 ++ [V.ref b5, V.ref b6, V.ref b7])) l5 = some (.lst (u2 ++ [V.ref b5, V.ref b6, V.ref b7])) := upd_same
  have lenu3 : (u2 ++ [V.ref b5, V.ref b6, V.ref b7]).length = 26 := by rw [List.length_append, lenu2]; rfl
  generalize upd HY l5 (.lst (u2 ++ [V.ref b5, V.ref b6, V.ref b7])) = HX at T kHX h6 G1 ⊢
  generalize u2 ++ [V.ref b5, V.ref b6, V.ref b7] = u3 at h6 G1 lenu3
  clear Gl k2 k3 h62 T2 hl4'
  have Gl : GoodL M HX [] := .nil
  -- which way
  have hv6 := hv.mono kHX
  refine ⟨_, rfl, _, rfl, _, _, rfl, .inl (SqL.of h6), _, _, rfl, rfl, .inl ⟨by omega, by omega⟩, p, 52, ?_, T.st, by decide, by decide, fun r7 H7 lr7 b7 p7 => ?_⟩
  · rw [lenu3]
    rfl
  have T7 := T.but b7 p7
  have k7 := kp_bM b7 hpM
  have h67 := k7 _ _ nl3 h6
  replace G1 := G1.mono k7
  replace hv6 := hv6.mono k7
  refine ⟨_, rfl, _, rfl, _, _, rfl, .inl (SqL.of h67), _, _, rfl, rfl, _, rfl, ite2 (fun e => ?_) (fun e => ?_)⟩
  · have lt : r7 < u3.length := by
      have := of_decide_eq_true e
      omega
    obtain ⟨x, hx⟩ : ∃ x, u3[r7]? = some x := ⟨_, List.getElem?_eq_getElem lt⟩
    obtain ⟨e, E1, E2⟩ := G1.get hx
    exact ⟨_, rfl, _, rfl, _, _, _, _, rfl, rfl, SqL.of h67, atI_nat hx, kq _ _ _ T7.b T7.st E1 (dh_le E2 h4)⟩
  · refine ⟨_, rfl, _, rfl, _, rfl, v, t, rfl, hv6.drop (by simp), hh, fun H8 s8 => ?_⟩
    have T8 := T7.same s8
    refine ⟨p, cnt h t, rfl, T8.st, cnt_pos hh, hct, fun r8 H9 lr8 b9 p9 => ?_⟩
    have T9 := T8.but b9 p9
    have hv9 := hv6.mono ((Kp.same s8).trans (kp_bM b9 hpM))
    refine ⟨by simp; decide, fun l hl => ?_⟩
    have T10 := T9.new (o := .lst [V.int r8]) hl
    have hv10 := (hv9.fresh hl).mono (Kp.new (o := .lst [V.int r8]) hl)
    have nl := T9.not hl
    refine ⟨l :: M, v, l, r8, t, rfl, by simp, upd_same, hv10, hh, fun q us ds n' H11 k11 hl11 nq hq11 dl hds ao => ?_⟩
    have ld := (ao.2.1 (by omega) (by omega)).2
    match ds, dl, ld, hds with
    | [e], .cons (v := x) E1 .nil, _, hds =>
      have npl : p ∉ [l] := fun z => nl (by rw [← List.mem_singleton.mp z]; exact hpM)
      refine ⟨_, _, _, _, rfl, rfl, SqL.of hq11, atI_nat (j := 0) rfl, kq _ _ _ (fun x o n ex => ?_) ?_ (E1.drop fun x hx => List.mem_cons_of_mem _ hx) (hds e (by simp))⟩
      · have e9 := T9.b x o n ex
        exact k11 _ _ (by simpa using ne_of_none e9 hl) (KD.Same.upd hl _ _ e9)
      · obtain ⟨a, b, e10, r⟩ := T10.st
        exact ⟨a, b, k11 _ _ npl e10, r⟩
end
end Q3

/-! LWa: drawn trees as things; tables stand apart. -/
namespace Q3
open PySem PySem.Spec PyProof.Rows L2 GenW GxR NdefX GX
open KD (top FAt Each RowG KRow DGr MkR KdR WAt Sb StA ButS At AtL)
open KM (G T ok Bw Nw)
theorem g_len {x : Str} (h : G x) : x.length ≤ 1000 := by
  have := h.1
  have e : x.cps.toList.length = x.length := by
    rw [Array.length_toList]
    rfl
  omega
theorem bw_len (w : Bw) : (KM.Bw.s w).length ≤ 1000 := by cases w <;> decide
theorem nw_len (w : Nw) : (KM.Nw.s w).length ≤ 1000 := by cases w <;> decide
theorem atDL {M : List Addr} {H : Hp} {n : Nat} : ∀ {ps : List T} {vs : List V}, (∀ p ∈ ps, ∀ v, At H v p → ∃ d, DS M H v d ∧ th3 n d) → AtL H vs ps → ∃ ds, DSL M H vs ds ∧ ds.length = ps.length ∧ ∀ d ∈ ds, th3 n d
  | [], _, _, .nil => ⟨[], .nil, rfl, fun d hd => nomatch hd⟩
  | p :: ps, _, q, .cons a b => by
    obtain ⟨d, hd, td⟩ := q p List.mem_cons_self _ a
    obtain ⟨ds, hds, ld, tds⟩ := atDL (fun x hx => q x (List.mem_cons_of_mem _ hx)) b
    exact ⟨d :: ds, .cons hd hds, congrArg (· + 1) ld, fun x hx => (List.mem_cons.mp hx).elim (fun z => by rw [z]; exact td) (tds x)⟩
theorem atD {ns ks : List Str} {M : List Addr} {H : Hp} (hM : ∀ x ∈ M, ∀ ts, H x ≠ some (.tup ts)) : ∀ {h m : Nat} {t : T} {v : V}, ok ns ks h m t → At H v t → ∃ d, DS M H v d ∧ th3 (2 * h) d
  | 0, _, _, _, o, _ => o.elim
  | h + 1, m, .nam x k, _, o, .nam e => ⟨.tup [.str "name", .str x, .str k], .tup (fun z => hM _ z _ e) e (.cons (.str (by decide)) (.cons (.str (g_len o.1.2)) (.cons (.str (g_len o.2.2)) .nil))), by
      show th3 ((2 * h + 1) + 1) _
      exact ⟨by simp, fun x hx => by simp at hx; rcases hx with rfl | rfl | rfl <;> trivial⟩⟩
  | h + 1, m, .bnd n, _, o, .bnd e => ⟨.tup [.str "bound", .int n], .tup (fun z => hM _ z _ e) e (.cons (.str (by decide)) (.cons .int .nil)), by
      show th3 ((2 * h + 1) + 1) _
      exact ⟨by simp, fun x hx => by simp at hx; rcases hx with rfl | rfl <;> trivial⟩⟩
  | h + 1, m, .mad f ps, _, o, .mad (vs := vs) e e2 l => by
    obtain ⟨ds, hds, ld, tds⟩ := atDL (fun p hp v a => atD hM (o.2 p hp) a) l
    refine ⟨.tup [.str "made", .str f, .tup ds], .tup (fun z => hM _ z _ e) e (.cons (.str (by decide)) (.cons (.str (g_len o.1.2)) (.cons (.tup (fun z => hM _ z _ e2) e2 hds) .nil))), ?_⟩
    show th3 ((2 * h + 1) + 1) _
    refine ⟨by simp, fun x hx => ?_⟩
    simp at hx
    rcases hx with rfl | rfl | rfl
    · trivial
    · trivial
    · exact ⟨by have := o.1.1; omega, tds⟩
  | h + 1, m, .bin w k a, _, o, .bin e l => by
    obtain ⟨d, hd, td⟩ := atD hM o.2 l
    refine ⟨.tup [.str w.s, .str k, d], .tup (fun z => hM _ z _ e) e (.cons (.str (bw_len w)) (.cons (.str (g_len o.1.2)) (.cons hd .nil))), ?_⟩
    show th3 ((2 * h + 1) + 1) _
    refine ⟨by simp, fun x hx => ?_⟩
    simp at hx
    rcases hx with rfl | rfl | rfl
    · trivial
    · trivial
    · exact th3_le td (by omega)
  | h + 1, m, .nod w ps, _, o, .nod (vs := vs) e l => by
    obtain ⟨ds, hds, ld, tds⟩ := atDL (fun p hp v a => atD hM (o.2 p hp) a) l
    refine ⟨.tup (.str w.s :: ds), .tup (fun z => hM _ z _ e) e (.cons (.str (nw_len w)) hds), ?_⟩
    show th3 ((2 * h + 1) + 1) _
    refine ⟨by have := o.1; rw [List.length_cons]; omega, fun x hx => ?_⟩
    rcases List.mem_cons.mp hx with rfl | hx
    · trivial
    · exact th3_le (tds x hx) (by omega)
theorem sb_tab {M : List Addr} {H : Hp} {a T : Addr} {o : HO} (h : Sb M H a o) (t : TabG H T) (n : ∀ ps, o ≠ .tbl ps) : Sb (T :: M) H a o := ⟨h.1, fun z => by
  rcases List.mem_cons.mp z with z | z
  · obtain ⟨ps, e, _⟩ := t
    rw [← z, h.1] at e
    exact n ps (Option.some.inj e)
  · exact h.2 z⟩
mutual
theorem DS.tab {M : List Addr} {H : Hp} {T : Addr} (t : TabG H T) : ∀ {v : V} {d : D}, DS M H v d → DS (T :: M) H v d
  | _, _, .non => .non
  | _, _, .bl => .bl
  | _, _, .int => .int
  | _, _, .str h => .str h
  | _, _, .tup n e l => .tup (sb_tab ⟨e, n⟩ t (fun _ z => nomatch z)).2 e (DSL.tab t l)
  | _, _, .lst n e l => .lst (sb_tab ⟨e, n⟩ t (fun _ z => nomatch z)).2 e (DSL.tab t l)
  | _, _, .dct n e => .dct (sb_tab ⟨e, n⟩ t (fun _ z => nomatch z)).2 e
theorem DSL.tab {M : List Addr} {H : Hp} {T : Addr} (t : TabG H T) : ∀ {vs : List V} {ds : List D}, DSL M H vs ds → DSL (T :: M) H vs ds
  | _, _, .nil => .nil
  | _, _, .cons a b => .cons (DS.tab t a) (DSL.tab t b)
end
theorem DS.tabs {M : List Addr} {H : Hp} {Tb Tw : Addr} (t : TabG H Tb) (w : TabG H Tw) {v : V} {d : D} (h : DS M H v d) : DS [Tb, Tw] H v d := ((h.drop (N := []) (by simp)).tab w).tab t
theorem FAt.tab {M : List Addr} {H : Hp} {T : Addr} (t : TabG H T) {q : L2.Key × V} {r : KD.Row} (h : FAt M H q r) : FAt (T :: M) H q r := by
  obtain ⟨a, tk, e1, h1, h2⟩ := h
  exact ⟨a, tk, e1, sb_tab h1 t (fun _ z => nomatch z), sb_tab h2 t (fun _ z => nomatch z)⟩
theorem WAt.tab {M : List Addr} {H : Hp} {T : Addr} (t : TabG H T) {v : V} {r : KD.Row} (h : WAt M H v r) : WAt (T :: M) H v r := by
  obtain ⟨a, tk, e, e1, h1, h2, h3⟩ := h
  exact ⟨a, tk, e, e1, sb_tab h1 t (fun _ z => nomatch z), sb_tab h2 t (fun _ z => nomatch z), sb_tab h3 t (fun _ z => nomatch z)⟩
theorem MkR.tab {M : List Addr} {H : Hp} {T : Addr} (t : TabG H T) {v : V} {x : Str × List Str} (h : MkR M H v x) : MkR (T :: M) H v x := by
  obtain ⟨b, tk, e, h1, h2⟩ := h
  exact ⟨b, tk, e, sb_tab h1 t (fun _ z => nomatch z), sb_tab h2 t (fun _ z => nomatch z)⟩
theorem KdR.tab {M : List Addr} {H : Hp} {T : Addr} (t : TabG H T) {v : V} {x : KRow} (h : KdR M H v x) : KdR (T :: M) H v x := by
  obtain ⟨a, mk, ms, e, h1, h2, h3⟩ := h
  exact ⟨a, mk, ms, e, sb_tab h1 t (fun _ z => nomatch z), sb_tab h2 t (fun _ z => nomatch z), h3.imp fun v r h => MkR.tab t h⟩
theorem GrAt.fresh {M : List Addr} {C : Addr} {H : Hp} {g x : Addr} {G : Gr} (h : GrAt M C H g G) (hx : H x = none) : GrAt (x :: M) C H g G := by
  have F : ∀ {a : Addr} {o : HO}, a ∉ M ∧ H a = some o → a ∉ x :: M ∧ H a = some o := fun {a o} h => ⟨fun z => (List.mem_cons.mp z).elim (fun w => ne_of_none h.2 hx w) h.1, h.2⟩
  obtain ⟨dx, mk, tk, gv, fa, rt, ms, ts, gs, fs, rs, h0, h1, h2, h3, h4, h5, hk, hf⟩ := h
  refine ⟨dx, mk, tk, gv, fa, rt, ms, ts, gs, fs, rs, F h0, F h1, F h2, F h3, F h4, F h5, hk, fun f => ?_⟩
  have q := hf f
  cases e : G.tg f with
  | none =>
    rw [e] at q
    exact q
  | some r =>
    rw [e] at q
    obtain ⟨t, k'⟩ := r
    obtain ⟨b, nb, h6, h7, h8⟩ := q
    exact ⟨b, (F ⟨nb, h7⟩).1, h6, h7, h8⟩
theorem LwM.fresh {M : List Addr} {H : Hp} {d kl x : Addr} {kn : List Str} {rows : List KD.Row} (h : LwM M H d kl kn rows) (hx : H x = none) : LwM (x :: M) H d kl kn rows := by
  have F : ∀ {a : Addr} {o : HO}, a ∉ M ∧ H a = some o → a ∉ x :: M ∧ H a = some o := fun {a o} h => ⟨fun z => (List.mem_cons.mp z).elim (fun w => ne_of_none h.2 hx w) h.1, h.2⟩
  obtain ⟨⟨n1, od, kvs, h1, h2⟩, nd, hk, hg, hr⟩ := h
  exact ⟨⟨(F ⟨n1, h1⟩).1, od, kvs, h1, h2.imp fun q r f => f.fresh hx⟩, nd, F hk, hg, hr⟩
/-- what stands while the law goes on: the ground, the makers, the kinds' names -/
structure Bs (M : List Addr) (C : Addr) (H : Hp) (g kl : Addr) (kn : List Str) (rows : List KD.Row) (kvs : List (L2.Key × V)) : Prop where
  g : GrAt M C H g (grOf kn rows)
  e : Each (FAt M H) kvs rows
  k : kl ∉ M ∧ H kl = some (.lst (kn.map V.str))
theorem Bs.mono {M : List Addr} {C : Addr} {H H' : Hp} {g kl : Addr} {kn : List Str} {rows : List KD.Row} {kvs : List (L2.Key × V)} (h : Bs M C H g kl kn rows kvs) (k : Kp M H H') : Bs M C H' g kl kn rows kvs :=
  ⟨h.g.mono k, h.e.imp fun q r f => f.mono k, h.k.1, k _ _ h.k.1 h.k.2⟩
theorem Bs.drop {M N : List Addr} {C : Addr} {H : Hp} {g kl : Addr} {kn : List Str} {rows : List KD.Row} {kvs : List (L2.Key × V)} (h : Bs M C H g kl kn rows kvs) (s : ∀ x ∈ N, x ∈ M) : Bs N C H g kl kn rows kvs :=
  ⟨h.g.drop s, h.e.imp fun q r f => f.drop s, fun z => h.k.1 (s _ z), h.k.2⟩
end Q3

/-! LWb: law. -/
namespace Q3
open PySem PySem.Spec PyProof.Rows L2 GenW GxR NdefX GX
open KD (top FAt Each RowG KRow DGr MkR KdR WAt Sb StA ButS At AtL spDraw spSeed spState spGround spMakes spSay pSa mrsA rLenK)
open KM (G T ok)
def spLw (K : PySem.W.Frag) (Tb T2 T3 Tw : Addr) : Sp := fun vs H Q _ => ∃ (a : Addr) (xs : List Int), vs = [.ref a] ∧ SqL K H a (xs.map V.int) ∧ xs.length ≤ 63 ∧ TabG H Tb ∧ TabG H T2 ∧ TabG H T3 ∧ TabG H Tw ∧ T2 ≠ Tb ∧ T3 ≠ Tb ∧ T3 ≠ T2 ∧ Tw ∉ [Tb, T2, T3] ∧ ∀ H', Q (.bl true) H'
theorem sql_kp {K : PySem.W.Frag} {H H' : Hp} {a : Addr} {xs : List V} {M : List Addr} (h : SqL K H a xs) (k : Kp M H H') (n : ∀ x ∈ M, ∀ o, H x = some o → (∀ l, o ≠ .lst l) ∧ ∀ ob l, o ≠ .frz ob (.lst l)) : SqL K H' a xs :=
  h.elim (fun h => .inl (h.elim (fun h => .inl (k _ _ (fun z => (n _ z _ h).1 _ rfl) h)) fun ⟨o, h⟩ => .inr ⟨o, k _ _ (fun z => (n _ z _ h).2 _ _ rfl) h⟩)) fun h => .inr h
theorem sqlS {K : PySem.W.Frag} {H H' : Hp} {a : Addr} {xs : List V} (h : SqL K H a xs) (e : Same H H') : SqL K H' a xs := h.elim (fun h => .inl (h.elim (fun h => .inl (e _ _ h)) fun ⟨o, h⟩ => .inr ⟨o, e _ _ h⟩)) fun h => .inr h
theorem last_at {kn : List Str} (h : 1 ≤ kn.length) : ∃ kz, kz ∈ kn ∧ atI (kn.map V.str) (-1) = some (V.str kz) := by
  have ne : kn ≠ [] := fun z => by rw [z] at h; exact absurd h (by decide)
  obtain ⟨i, z, rfl⟩ : ∃ i z, kn = i ++ [z] := ⟨kn.dropLast, kn.getLast ne, (List.dropLast_concat_getLast ne).symm⟩
  refine ⟨z, by simp, ?_⟩
  rw [List.map_append]
  exact atI_last _ _
abbrev sLa : Stmt := top 63
abbrev nLa : List Str := ["_law_script", "_law_state_here", "_law_told", "_law_ground", "_law_makes_here", "_law_kind", "_law_kinds_here", "_law_thing", "_law_cell", "_law_line", "_law_other", "_law_around", "_law_most"]
theorem scLa : FnScope nLa ["_law_script"] (defScope sLa) := ⟨rfl, rfl, rfl, by decide +kernel, rfl, by decide +kernel, by decide +kernel⟩
section
variable {P : Program} {w : World} {K : PySem.W.Frag} {mg : Str → Option Value} {base : Heap} {f f1 f2 f3 f4 f5 fi fg fp fb fc fs fr : Addr} {fd d1 d2 d3 d4 d5 di dg dp db dc ds' dr : FuncData} {C Tb T2 T3 Tw : Addr}
theorem ok_law (F : Fun K "law" "law" (top 63) f fd) (X : TxQ mg)
    (C1 : Cal K mg "_law_seed" ["_law_script", "_law_k"] f1 d1) (h1 : ∀ k, FnOk P w K mg base CX0 (1 + k) f1 d1 ["_law_script", "_law_k"] (spSeed K))
    (C2 : Cal K mg "_law_state" ["_law_cell"] f2 d2) (h2 : ∀ k, FnOk P w K mg base CX0 (1 + k) f2 d2 ["_law_cell"] spState)
    (C3 : Cal K mg "_law_drawn_ground" ["_law_state_here"] f3 d3) (h3 : ∀ k, FnOk P w K mg base CX0 (4 + k) f3 d3 ["_law_state_here"] spGround)
    (C4 : Cal K mg "_law_makes" ["_law_kinds_here", "_law_works_here"] f4 d4) (h4 : ∀ k, FnOk P w K mg base CX0 (1 + k) f4 d4 ["_law_kinds_here", "_law_works_here"] spMakes)
    (C5 : Cal K mg "_law_draw" ["_law_state_here", "_law_many"] f5 d5) (h5 : ∀ k, FnOk P w K mg base CX0 (1 + k) f5 d5 ["_law_state_here", "_law_many"] spDraw)
    (MK : Mk K C fi) (mG : mg "Ground" = some (.ref C)) (bI : Binds K di ["self", "kinds", "works"] []) (hI : FnOk P w K mg base CX0 7 fi di ["self", "kinds", "works"] (GN.spInit C Tb T2 T3))
    (Cg : Cal K mg "_law_great" pGt fg dg) (hg' : ∀ k, FnOk P w K mg base CX0 (2 + k) fg dg pGt spGt)
    (Cp : Cal K mg "_law_replaced" pRp fp dp) (hp' : ∀ hb h, FnOk P w K mg base CX0 (1 + h) fp dp pRp (spRp hb h))
    (Cb : Cal K mg "_law_by" pBy fb db) (hb : ∀ h, FnOk P w K mg base CX0 (2 + h) fb db pBy (spBy h))
    (Cc : Cal K mg "_law_count" ["_law_thing"] fc dc) (hc : ∀ h, FnOk P w K mg base CX0 (1 + h) fc dc ["_law_thing"] (spCt h))
    (Cs : Cal K mg "_law_saying" pSa fs ds') (hs : ∀ h, FnOk P w K mg base CX0 (5 + h) fs ds' pSa (spSay h))
    (Cr : Cal K mg "_law_right" pRt fr dr) (hrt : ∀ h, FnOk P w K mg base CX0 (10 + 3 * h) fr dr pRt (spRt C Tb Tw h)) : FnOk P w K mg base CX0 220 f fd ["_law_script"] (spLw K Tb T2 T3 Tw) := by
  refine F.ok (k := 219) scLa (fun vs H Q E h => ?_) (fun cdv A0 outer s H vs Q E hr hq => ?_)
  · obtain ⟨_, _, rfl, _⟩ := h
    rfl
  obtain ⟨a, xs, rfl, hx, lx, tb, t2, t3, tw, n21, n31, n32, nW, kq⟩ := hq
  refine ⟨_, /-TG-/(pss_cons (ps_set (i := 1) scLa.nd rfl (Or.inl rfl) (pe_call (h2 0) (hr.mono (by omega)) rfl C2.m C2.kp C2.b .nil pass0 (pa_cons (pe_call (h1 0) (hr.mono (by omega)) rfl C1.m C1.kp C1.b .nil pass0 (pa_cons (pv 0) (pa_cons pe_int pa_nil))) pa_nil)))
      (pss_cons (ps_set (i := 2) scLa.nd rfl (Or.inl rfl) (pe_call (h3 0) (hr.mono (by omega)) rfl C3.m C3.kp C3.b .nil pass0 (pa_cons (pv 1) pa_nil)))
      (pss_cons (ps_set (i := 3) scLa.nd rfl (Or.inl rfl) (pe_make MK hI (hr.mono (by omega)) rfl mG bI .nil pass0 (pa_cons (pe_ix ix_tup (pv 2) pe_int (fun _ _ => rfl)) (pa_cons (pe_ix ix_tup (pv 2) pe_int (fun _ _ => rfl)) pa_nil))))
      (pss_cons (ps_set (i := 4) scLa.nd rfl (Or.inl rfl) (pe_call (h4 0) (hr.mono (by omega)) rfl C4.m C4.kp C4.b .nil pass0 (pa_cons (pe_ix ix_tup (pv 2) pe_int (fun _ _ => rfl)) (pa_cons (pe_ix ix_tup (pv 2) pe_int (fun _ _ => rfl)) pa_nil))))
      (pss_cons (ps_setLc (i := 6) (own := [("_law_kind", 5)]) (g := gName 5) (tt := tYes) (te := tOp (rIxT K) (tVar 5) (tC (V.int 0))) rfl scLa.nd rfl rfl rfl (pi_list (pe_ix ix_tup (pv 2) pe_int (fun _ _ => rfl))) (blkOk_by (N := nLa) (sc := defScope (top 63)) (by decide +kernel)) (fun _ _ _ _ _ => pg_name (i := 5) scLa.nd rfl (Or.inl rfl)) (fun _ _ _ _ _ => pts_nil) (fun _ _ _ _ _ => (pe_ix ix_tup (pv 5) pe_int (fun _ _ => rfl))))
      (pss_cons (ps_lock (ps_for PassesOwn.never rfl (pi_list (pe_lst (pa_cons pe_non (pa_cons pe_bl (pa_cons pe_int (pa_cons pe_str (pa_cons pe_str (pa_cons (pe_tup pa_nil) (pa_cons (pe_lst pa_nil) (pa_cons (pe_lst (pa_cons pe_str pa_nil)) (pa_cons pe_dnewK (pa_cons (pe_tup (pa_cons pe_str pa_nil)) (pa_cons (pe_tup (pa_cons pe_str pa_nil)) (pa_cons (pe_tup (pa_cons pe_str (pa_cons pe_str (pa_cons (pe_ix ix_list (pv 6) pe_int (fun _ _ => rfl)) pa_nil)))) pa_nil)))))))))))))) (pg_name (i := 7) scLa.nd rfl (Or.inl rfl)) (pss_one
        (ps_if (pt_not (pt_val (pe_call (hrt 4) (hr.mono (by omega)) rfl Cr.m Cr.kp Cr.b .nil pass0 (pa_cons (pv 3) (pa_cons (pv 4) (pa_cons (pv 6) (pa_cons (pe_ix ix_list (pv 6) (pe_un un_neg pe_int) (fun _ _ => rfl)) (pa_cons (pv 7) pa_nil)))))))) (pss_one
        (ps_ret pe_bl)) pss_nil))))
      (pss_cons (ps_lock (ps_for PassesOwn.never rfl (pi_list (pe_op op_cat (pe_lst (pa_cons pe_int pa_nil)) (pe_slice sl_list (pv 0) (po_some pe_int) (po_some pe_int)))) (pg_name (i := 8) scLa.nd rfl (Or.inl rfl)) (pss_cons (ps_set (i := 9) scLa.nd rfl (Or.inl rfl) (pe_call (h2 0) (hr.mono (by omega)) rfl C2.m C2.kp C2.b .nil pass0 (pa_cons (pv 8) pa_nil)))
      (pss_cons (ps_set (i := 5) scLa.nd rfl (Or.inl rfl) (pe_ix ix_list (pv 6) (pe_call (h5 0) (hr.mono (by omega)) rfl C5.m C5.kp C5.b .nil pass0 (pa_cons (pv 9) (pa_cons (pe_callB call_len_seq (by rfl) X.len PySem.boot_len (pa_cons (pv 6) pa_nil)) pa_nil))) (fun _ _ => rfl)))
      (pss_cons (ps_set (i := 7) scLa.nd rfl (Or.inl rfl) (pe_call (hg' 0) (hr.mono (by omega)) rfl Cg.m Cg.kp Cg.b .nil pass0 (pa_cons (pv 9) (pa_cons (pv 5) pa_nil))))
      (pss_cons (ps_set (i := 10) scLa.nd rfl (Or.inl rfl) (pe_call (hp' 4 62) (hr.mono (by omega)) rfl Cp.m Cp.kp Cp.b .nil pass0 (pa_cons (pv 7) (pa_cons (pe_lst (pa_cons (pe_call (h5 0) (hr.mono (by omega)) rfl C5.m C5.kp C5.b .nil pass0 (pa_cons (pv 9) (pa_cons (pe_call (hc 62) (hr.mono (by omega)) rfl Cc.m Cc.kp Cc.b .nil pass0 (pa_cons (pv 7) pa_nil)) pa_nil))) pa_nil)) (pa_cons (pe_call (hb 4) (hr.mono (by omega)) rfl Cb.m Cb.kp Cb.b .nil pass0 (pa_cons (pv 9) (pa_cons (pe_tup (pa_cons pe_str pa_nil)) (pa_cons (pv 4) (pa_cons (pv 6) pa_nil))))) pa_nil)))))
      (pss_one
        (ps_if (PW.pt (pw_or (pt_not (pt_val (pe_call (hrt 62) (hr.mono (by omega)) rfl Cr.m Cr.kp Cr.b .nil pass0 (pa_cons (pv 3) (pa_cons (pv 4) (pa_cons (pv 6) (pa_cons (pv 5) (pa_cons (pv 7) pa_nil)))))))) (pw_or1 (pt_not (pt_val (pe_call (hrt 66) (hr.mono (by omega)) rfl Cr.m Cr.kp Cr.b .nil pass0 (pa_cons (pv 3) (pa_cons (pv 4) (pa_cons (pv 6) (pa_cons (pv 5) (pa_cons (pv 10) pa_nil))))))))))) (pss_one
        (ps_ret pe_bl)) pss_nil))))))))
      (pss_cons (ps_lock (ps_for PassesOwn.never rfl (pi_list (pe_op op_cat (pe_lst (pa_cons pe_int pa_nil)) (pe_slice sl_list (pv 0) (po_some pe_int) (po_some pe_int)))) (pg_name (i := 8) scLa.nd rfl (Or.inl rfl)) (pss_cons (ps_set (i := 9) scLa.nd rfl (Or.inl rfl) (pe_call (h2 0) (hr.mono (by omega)) rfl C2.m C2.kp C2.b .nil pass0 (pa_cons (pv 8) pa_nil)))
      (pss_cons (ps_set (i := 5) scLa.nd rfl (Or.inl rfl) (pe_ix ix_list (pv 6) (pe_call (h5 0) (hr.mono (by omega)) rfl C5.m C5.kp C5.b .nil pass0 (pa_cons (pv 9) (pa_cons (pe_callB call_len_seq (by rfl) X.len PySem.boot_len (pa_cons (pv 6) pa_nil)) pa_nil))) (fun _ _ => rfl)))
      (pss_cons (ps_set (i := 11) scLa.nd rfl (Or.inl rfl) (pe_ix ix_list (pe_lst (pa_cons (pe_lst pa_nil) (pa_cons (pe_lst (pa_cons (pv 5) pa_nil)) pa_nil))) (pe_call (h5 0) (hr.mono (by omega)) rfl C5.m C5.kp C5.b .nil pass0 (pa_cons (pv 9) (pa_cons pe_int pa_nil))) (fun _ _ => rfl)))
      (pss_cons (ps_set (i := 12) scLa.nd rfl (Or.inl rfl) (pe_op op_add pe_int (pe_call (h5 0) (hr.mono (by omega)) rfl C5.m C5.kp C5.b .nil pass0 (pa_cons (pv 9) (pa_cons pe_int pa_nil)))))
      (pss_cons (ps_set (i := 7) scLa.nd rfl (Or.inl rfl) (pe_call (hs 4) (hr.mono (by omega)) rfl Cs.m Cs.kp Cs.b .nil pass0 (pa_cons (pv 9) (pa_cons (pv 4) (pa_cons (pv 6) (pa_cons (pe_lst (pa_cons pe_str (pa_cons pe_str pa_nil))) (pa_cons (pv 11) (pa_cons (pe_op op_sub pe_int (pe_op op_mul pe_int (pv 12))) (pa_cons (pv 12) pa_nil)))))))))
      (pss_cons (ps_set (i := 10) scLa.nd rfl (Or.inl rfl) (pe_call (hp' 12 12) (hr.mono (by omega)) rfl Cp.m Cp.kp Cp.b .nil pass0 (pa_cons (pv 7) (pa_cons (pe_lst (pa_cons (pe_call (h5 0) (hr.mono (by omega)) rfl C5.m C5.kp C5.b .nil pass0 (pa_cons (pv 9) (pa_cons (pe_call (hc 12) (hr.mono (by omega)) rfl Cc.m Cc.kp Cc.b .nil pass0 (pa_cons (pv 7) pa_nil)) pa_nil))) pa_nil)) (pa_cons (pe_call (hb 12) (hr.mono (by omega)) rfl Cb.m Cb.kp Cb.b .nil pass0 (pa_cons (pv 9) (pa_cons (pv 7) (pa_cons (pv 4) (pa_cons (pv 6) pa_nil))))) pa_nil)))))
      (pss_one
        (ps_if (PW.pt (pw_or (pt_not (pt_val (pe_call (hrt 12) (hr.mono (by omega)) rfl Cr.m Cr.kp Cr.b .nil pass0 (pa_cons (pv 3) (pa_cons (pv 4) (pa_cons (pv 6) (pa_cons (pv 5) (pa_cons (pv 7) pa_nil)))))))) (pw_or1 (pt_not (pt_val (pe_call (hrt 24) (hr.mono (by omega)) rfl Cr.m Cr.kp Cr.b .nil pass0 (pa_cons (pv 3) (pa_cons (pv 4) (pa_cons (pv 6) (pa_cons (pv 5) (pa_cons (pv 10) pa_nil))))))))))) (pss_one
        (ps_ret pe_bl)) pss_nil))))))))))
      (pss_one
        (ps_ret pe_bl))))))))))/-TGE-/, ?_⟩
  -- the seed, the state, the drawn ground
  refine ⟨_, rfl, a, xs, rfl, hx, fun i0 => ⟨i0, rfl, fun p0 H1 hp0 s1 pA => ?_⟩⟩
  refine ⟨_, rfl, p0, rfl, pA, fun g0 kk wk H2 kds us ws rows b2 p2 hg0 hkk hwk hD uk aw => ?_⟩
  have s2 : Same H H2 := fun x o e => b2 x o (ne_of_none e hp0) (s1 _ _ e)
  -- the ground
  refine ⟨_, rfl, _, _, _, _, rfl, rfl, SqT.of hg0, atI_nat (j := 0) rfl, _, rfl, _, _, _, _, rfl, rfl, SqT.of hg0, atI_nat (j := 1) rfl, fun g dx hg hdx ndx => ?_⟩
  have tb2 := tab_kp tb (Kp.same (M := []) s2) (by simp)
  have t22 := tab_kp t2 (Kp.same (M := []) s2) (by simp)
  have t32 := tab_kp t3 (Kp.same (M := []) s2) (by simp)
  have tw2 := tab_kp tw (Kp.same (M := []) s2) (by simp)
  have kG : ∀ {M : List Addr}, Kp M H2 (upd (upd H2 dx (.own g)) g (.ins C dx [])) := fun {M} => (Kp.new hdx).trans (Kp.new (by rw [upd_ne ndx.symm]; exact hg))
  have hgG : upd (upd H2 dx (.own g)) g (.ins C dx []) g = some (.ins C dx []) := upd_same
  have tbG := tab_kp tb2 (kG (M := [])) (by simp)
  have t2G := tab_kp t22 (kG (M := [])) (by simp)
  have t3G := tab_kp t32 (kG (M := [])) (by simp)
  have twG := tab_kp tw2 (kG (M := [])) (by simp)
  have S3 : ∀ {b : Addr} {o : HO}, Sb [p0] H2 b o → (∀ ps, o ≠ .tbl ps) → Sb [Tb, T2, T3, g] (upd (upd H2 dx (.own g)) g (.ins C dx [])) b o := fun {b o} h n => sb_tab (sb_tab (sb_tab (((h.drop (by simp)).fresh (M := []) hg).mono kG) t3G n) t2G n) tbG n
  have kk3 := S3 hkk (fun _ z => nomatch z)
  have wk3 := S3 hwk (fun _ z => nomatch z)
  have g03 := S3 (b := g0) ⟨hg0, fun z => (by
    obtain ⟨_, _, e, _⟩ := p2
    rw [← List.mem_singleton.mp z, hg0] at e
    exact nomatch e)⟩ (fun _ z => nomatch z)
  have uk3 : Each (KdR [Tb, T2, T3, g] (upd (upd H2 dx (.own g)) g (.ins C dx []))) us kds := uk.imp fun v r h => KdR.tab tbG (KdR.tab t2G (KdR.tab t3G ((((h.drop (N := []) (by simp)).fresh hg).mono kG))))
  have aw3 : Each (WAt [Tb, T2, T3, g] (upd (upd H2 dx (.own g)) g (.ins C dx []))) ws rows := aw.imp fun v r h => WAt.tab tbG (WAt.tab t2G (WAt.tab t3G ((((h.drop (N := []) (by simp)).fresh hg).mono kG))))
  have nTw : Tw ≠ g := fun e => by
    obtain ⟨ps, h, _⟩ := twG
    rw [e, hgG] at h
    exact nomatch h
  have tbl2 : ∀ {T : Addr}, TabG H2 T → ∃ ps, H2 T = some (.tbl ps) := fun {T} h => h.imp fun ps h => h.1
  have hxG : SqL K (upd (upd H2 dx (.own g)) g (.ins C dx [])) a (xs.map V.int) := sql_kp (sqlS hx s2) (kG (M := [])) (by simp)
  generalize upd (upd H2 dx (.own g)) g (.ins C dx []) = HG at kG hgG tbG t2G t3G twG kk3 wk3 g03 uk3 aw3 hxG ⊢
  refine ⟨g, dx, kk, wk, us, ws, kds, rows, rfl, hgG, kk3.1, wk3.1, lsr_of (fun v x h => kdR_at h) uk3, lsr_of (fun v x h => wAt_at h) aw3, good_of hD, tbG, t2G, t3G, n21, n31, n32, fun H3 A B kB tb3 t23 t33 => ⟨rfl, ?_⟩⟩
  have k3 : Kp [Tb, T2, T3, g] HG H3 := fun b o n e => kB b o e (fun z => n (by simp [z])) (fun z => n (by simp at z ⊢; rcases z with z | z | z <;> simp [z]))
  have tw3 := tab_kp twG k3 (by simp at nW ⊢; exact ⟨nW.1, nW.2.1, nW.2.2, nTw⟩)
  have gr3 : GrAt [Tb, Tw] C H3 g (grOf (kds.map (·.1)) (mrsA kds ++ rows)) := gr_of B (fun T h => by
    rcases List.mem_cons.mp h with rfl | h
    · exact tb3
    · rw [List.mem_singleton.mp h]; exact tw3) hD
  have kk4 := kk3.mono k3
  have wk4 := wk3.mono k3
  have g04 := g03.mono k3
  have uk4 : Each (KdR [] H3) us kds := uk3.imp fun v r h => (h.mono k3).drop (by simp)
  have aw4 : Each (WAt [] H3) ws rows := aw3.imp fun v r h => (h.mono k3).drop (by simp)
  have hx3 : SqL K H3 a (xs.map V.int) := sql_kp hxG k3 fun x hx o e => by
    have : (∃ ps, HG x = some (.tbl ps)) ∨ HG x = some (.ins C dx []) := by
      simp at hx
      rcases hx with rfl | rfl | rfl | rfl
      · exact .inl (tbG.imp fun _ h => h.1)
      · exact .inl (t2G.imp fun _ h => h.1)
      · exact .inl (t3G.imp fun _ h => h.1)
      · exact .inr hgG
    rcases this with ⟨ps, h⟩ | h <;> (rw [h] at e; rw [← Option.some.inj e]; exact ⟨fun l z => (nomatch z), fun ob l z => (nomatch z)⟩)
  have len16 := all_len hD
  have ndA := all_nd hD
  have rowA := all_row hD
  have kng := kn_g hD
  have kl1 : 1 ≤ (kds.map (·.1)).length := by rw [List.length_map]; exact hD.l1
  have kl4 : (kds.map (·.1)).length ≤ 4 := by rw [List.length_map]; exact hD.l4
  clear kG hgG tbG t2G t3G twG S3 kk3 wk3 g03 uk3 aw3 hxG k3 kB B
  -- what makes what
  refine ⟨_, rfl, _, _, _, _, rfl, rfl, SqT.of g04.1, atI_nat (j := 0) rfl, _, rfl, _, _, _, _, rfl, rfl, SqT.of g04.1, atI_nat (j := 1) rfl, kk, wk, kds, us, ws, rows, rfl, kk4.1, wk4.1, len16, uk4, aw4, ndA, fun d H4 kvs s4 hd hd4 fk => ?_⟩
  have tb4 := tab_kp tb3 (Kp.same (M := []) s4) (by simp)
  have tw4 := tab_kp tw3 (Kp.same (M := []) s4) (by simp)
  have fk4 : Each (FAt [Tb, Tw, d] H4) kvs (mrsA kds ++ rows) := fk.imp fun q r h => FAt.tab tb4 (FAt.tab tw4 h)
  have gr4 : GrAt [Tb, Tw, d] C H4 g (grOf (kds.map (·.1)) (mrsA kds ++ rows)) := ((gr3.fresh hd).mono (Kp.same s4)).drop (by simp)
  have hx4 := sqlS hx3 s4
  have g05 := s4 _ _ g04.1
  have kk5 := s4 _ _ kk4.1
  have uk5 : Each (KdR [] H4) us kds := uk4.imp fun v r h => h.mono (Kp.same s4)
  clear fk gr3 hx3 g04 kk4 wk4 aw4 tb3 tw3
  generalize hrw : mrsA kds ++ rows = rws at fk4 gr4 len16 ndA rowA
  -- the kinds' names
  refine ⟨_, rfl, _, _, _, _, rfl, rfl, SqT.of g05, atI_nat (j := 0) rfl, kk, rfl, ⟨_, SqL.of kk5⟩, fun Dd hDd => lc_list (xs := us) (fun i H' => Same H4 H' ∧ H' Dd = some (.lst ((kds.take i).map fun x => V.str x.1)))
    ⟨KD.Same.upd hDd, upd_same⟩ (fun i H' _ q => SqL.of (q.1 _ _ kk5)) (fun i v H' hv q => ?_) (fun H5 q => ?_)⟩
  · obtain ⟨s5, h5'⟩ := q
    obtain ⟨x, hx, b, mk, ms, rfl, hb', _, _⟩ := uk5.get hv
    refine ⟨rfl, ?_⟩
    unfold tYes
    simp only [if_true]
    have i4 : i < us.length := (List.getElem?_eq_some_iff.mp hv).1
    refine ⟨_, rfl, _, _, _, _, rfl, rfl, SqT.of (s5 _ _ hb'.1), atI_nat (j := 0) rfl, _, h5', ?_, fun x u hx => ?_, ?_⟩
    · rw [List.length_map, List.length_take]
      exact Nat.lt_of_le_of_lt (show min i kds.length ≤ 1000 by have := hD.l4; omega) (by decide)
    · rw [upd_ne (ne_of_none hx hDd)]
      exact s5 _ _ hx
    · rw [upd_same, List.take_succ, hx, List.map_append]
      rfl
  obtain ⟨s5, h5'⟩ := q
  rw [uk5.length, List.take_length] at h5'
  have h5k : H5 Dd = some (.lst ((kds.map (·.1)).map V.str)) := by rw [h5', List.map_map]; rfl
  clear h5'
  have tb5 := tab_kp tb4 (Kp.same (M := []) s5) (by simp)
  have tw5 := tab_kp tw4 (Kp.same (M := []) s5) (by simp)
  have hd5 := s5 _ _ hd4
  have hx5 := sqlS hx4 s5
  have ndT : d ∉ [Tb, Tw] := fun z => by
    simp at z
    rcases z with rfl | rfl
    · obtain ⟨ps, e, _⟩ := tb4
      rw [hd4] at e
      exact nomatch e
    · obtain ⟨ps, e, _⟩ := tw4
      rw [hd4] at e
      exact nomatch e
  have B5 : Bs [Tb, Tw, d] C H5 g Dd (kds.map (·.1)) rws kvs := ⟨gr4.mono (Kp.same s5), fk4.imp fun q r h => h.mono (Kp.same s5), by
    have a1 := tab_ne tb4 hDd
    have a2 := tab_ne tw4 hDd
    have a3 := (ne_of_none hd4 hDd)
    simp [a1, a2]
    exact fun z => a3 z.symm, h5k⟩
  clear gr4 fk4 hx4 g05 kk5 uk5 tb4 tw4 uk aw hg0 hkk hwk uk4
  generalize kds.map (·.1) = kn at B5 rowA kng kl1 kl4 h5k
  have mm : (Tb ∈ [Tb, Tw] ∧ Tw ∈ [Tb, Tw] ∧ Tb ≠ Tw) := ⟨by simp, by simp, fun z => nW (by simp [z])⟩
  have lockF : ∀ {Hx : Hp}, Bs [Tb, Tw, d] C Hx g Dd kn rws kvs → Hx d = some (.dK kvs) → TabG Hx Tb → TabG Hx Tw → ∀ od, GrAt [Tb, Tw] C (upd Hx d (.frz od (.dK kvs))) g (grOf kn rws) ∧ LwM [Tb, Tw] (upd Hx d (.frz od (.dK kvs))) d Dd kn rws ∧ TabG (upd Hx d (.frz od (.dK kvs))) Tb ∧ TabG (upd Hx d (.frz od (.dK kvs))) Tw := fun {Hx} B hd tx ty od => by
    have k : Kp [Tb, Tw, d] Hx (upd Hx d (.frz od (.dK kvs))) := Kp.upd (by simp)
    have B' := (B.mono k).drop (N := [Tb, Tw]) (by simp)
    have k2 : Kp [d] Hx (upd Hx d (.frz od (.dK kvs))) := Kp.upd (by simp)
    exact ⟨B'.g, ⟨⟨ndT, od, kvs, upd_same, B'.e⟩, ndA, B'.k, kng, rowA⟩, tab_kp tx k2 (by simp; intro z; exact ndT (by simp [z])), tab_kp ty k2 (by simp; intro z; exact ndT (by simp [z]))⟩
  have unF : ∀ {Hx HF HE : Hp} {od : Obj}, Bs [Tb, Tw, d] C Hx g Dd kn rws kvs → HF = upd Hx d (.frz od (.dK kvs)) → Kp [Tb, Tw] HF HE → TabG HE Tb → TabG HE Tw → SqL K Hx a (xs.map V.int) → TabG Hx Tb → TabG Hx Tw → Hx d = some (.dK kvs) → HE d = some (.frz od (.dK kvs)) ∧ Bs [Tb, Tw, d] C (upd HE d (.dK kvs)) g Dd kn rws kvs ∧ upd HE d (.dK kvs) d = some (.dK kvs) ∧ TabG (upd HE d (.dK kvs)) Tb ∧ TabG (upd HE d (.dK kvs)) Tw ∧ SqL K (upd HE d (.dK kvs)) a (xs.map V.int) := fun {Hx HF HE od} B e k tx ty hx tx0 ty0 hd0 => by
    have e1 : HE d = some (.frz od (.dK kvs)) := k _ _ ndT (by rw [e]; exact upd_same)
    have k2 : Kp [d] HE (upd HE d (.dK kvs)) := Kp.upd (by simp)
    have k3 : Kp [Tb, Tw, d] Hx (upd HE d (.dK kvs)) := (by
      have a1 : Kp [Tb, Tw, d] Hx HF := by rw [e]; exact Kp.upd (by simp)
      exact (a1.trans (k.sub (by simp))).trans (k2.sub (by simp)))
    refine ⟨e1, B.mono k3, upd_same, tab_kp tx k2 (by simp; intro z; exact ndT (by simp [z])), tab_kp ty k2 (by simp; intro z; exact ndT (by simp [z])), sql_kp hx k3 fun x hx o e => ?_⟩
    have : (∃ ps, Hx x = some (.tbl ps)) ∨ Hx x = some (.dK kvs) := by
      simp at hx
      rcases hx with rfl | rfl | rfl
      · exact .inl (tx0.imp fun _ h => h.1)
      · exact .inl (ty0.imp fun _ h => h.1)
      · exact .inr hd0
    rcases this with ⟨ps, h⟩ | h <;> (rw [h] at e; rw [← Option.some.inj e]; exact ⟨fun l z => (nomatch z), fun ob l z => (nomatch z)⟩)
  have nz : ∀ {H1 : Hp} {x : Addr}, TabG H1 Tb → TabG H1 Tw → H1 x = none → x ∉ [Tb, Tw] := fun {H1 x} a b e => by
    simp [tab_ne a e, tab_ne b e]
  obtain ⟨kz, kzm, kzl⟩ := last_at kl1
  obtain ⟨k0, k0e⟩ : ∃ k0, kn[0]? = some k0 := ⟨_, List.getElem?_eq_getElem (by omega)⟩
  have k0m := List.mem_of_getElem? k0e
  clear s4 s5 hd4 hDd hd p2 pA s1 b2 s2 hx hp0 hg hdx tb t2 t3 tw tb2 t22 t32 tw2 t23 t33
  -- the things that are no sayings, nearly
  refine ⟨d, .dK kvs, hd5, trivial, fun od => ?_⟩
  obtain ⟨gr6, lw6, tb6, tw6⟩ := lockF B5 hd5 tb5 tw5 od
  generalize hHL : upd H5 d (.frz od (.dK kvs)) = HL at gr6 lw6 tb6 tw6 ⊢
  have kX : Kp [Tb, Tw] HL HL := .refl _
  have tbX := tb6
  have twX := tw6
  have Gl : GoodL [Tb, Tw] HL [] := .nil
  have k0l := g_len (kng k0 k0m)
  refine ⟨Nat.zero_le _, fun a1 ha1 => ?_⟩
  have A : DS [Tb, Tw] (upd HL a1 (.tup [])) (.ref a1) (.tup []) := .tup (nz tbX twX ha1) upd_same .nil
  replace Gl := GoodL.cons A (dh_flat (by decide) (by simp [D.isT])) (Gl.mono (Kp.new (M := [Tb, Tw]) (o := .tup []) ha1))
  replace kX : Kp [Tb, Tw] HL (upd HL a1 (.tup [])) := kX.trans (Kp.new ha1)
  replace tbX := tab_new (o := .tup []) tbX ha1
  replace twX := tab_new (o := .tup []) twX ha1
  clear A
  generalize upd HL a1 (.tup []) = HX at Gl kX tbX twX ⊢
  refine ⟨Nat.zero_le _, fun a2 ha2 => ?_⟩
  have A : DS [Tb, Tw] (upd HX a2 (.lst [])) (.ref a2) (.lst []) := .lst (nz tbX twX ha2) upd_same .nil
  replace Gl := GoodL.cons A (trivial) (Gl.mono (Kp.new (M := [Tb, Tw]) (o := .lst []) ha2))
  replace kX : Kp [Tb, Tw] HL (upd HX a2 (.lst [])) := kX.trans (Kp.new ha2)
  replace tbX := tab_new (o := .lst []) tbX ha2
  replace twX := tab_new (o := .lst []) twX ha2
  clear A
  generalize upd HX a2 (.lst []) = HX at Gl kX tbX twX ⊢
  refine ⟨by simp; decide, fun a3 ha3 => ?_⟩
  have A : DS [Tb, Tw] (upd HX a3 (.lst [V.str "no"])) (.ref a3) (.lst [.str "no"]) := .lst (nz tbX twX ha3) upd_same (.cons (.str (by decide)) .nil)
  replace Gl := GoodL.cons A (trivial) (Gl.mono (Kp.new (M := [Tb, Tw]) (o := .lst [V.str "no"]) ha3))
  replace kX : Kp [Tb, Tw] HL (upd HX a3 (.lst [V.str "no"])) := kX.trans (Kp.new ha3)
  replace tbX := tab_new (o := .lst [V.str "no"]) tbX ha3
  replace twX := tab_new (o := .lst [V.str "no"]) twX ha3
  clear A
  generalize upd HX a3 (.lst [V.str "no"]) = HX at Gl kX tbX twX ⊢
  refine fun a4 ha4 => ?_
  have A : DS [Tb, Tw] (upd HX a4 (.dK [])) (.ref a4) (.dct) := .dct (nz tbX twX ha4) upd_same
  replace Gl := GoodL.cons A (trivial) (Gl.mono (Kp.new (M := [Tb, Tw]) (o := .dK []) ha4))
  replace kX : Kp [Tb, Tw] HL (upd HX a4 (.dK [])) := kX.trans (Kp.new ha4)
  replace tbX := tab_new (o := .dK []) tbX ha4
  replace twX := tab_new (o := .dK []) twX ha4
  clear A
  generalize upd HX a4 (.dK []) = HX at Gl kX tbX twX ⊢
  refine ⟨by simp; decide, fun a5 ha5 => ?_⟩
  have A : DS [Tb, Tw] (upd HX a5 (.tup [V.str "no"])) (.ref a5) (.tup [.str "no"]) := .tup (nz tbX twX ha5) upd_same (.cons (.str (by decide)) .nil)
  replace Gl := GoodL.cons A (dh_flat (by decide) (by simp [D.isT])) (Gl.mono (Kp.new (M := [Tb, Tw]) (o := .tup [V.str "no"]) ha5))
  replace kX : Kp [Tb, Tw] HL (upd HX a5 (.tup [V.str "no"])) := kX.trans (Kp.new ha5)
  replace tbX := tab_new (o := .tup [V.str "no"]) tbX ha5
  replace twX := tab_new (o := .tup [V.str "no"]) twX ha5
  clear A
  generalize upd HX a5 (.tup [V.str "no"]) = HX at Gl kX tbX twX ⊢
  refine ⟨by simp; decide, fun a6 ha6 => ?_⟩
  have A : DS [Tb, Tw] (upd HX a6 (.tup [V.str "not"])) (.ref a6) (.tup [.str "not"]) := .tup (nz tbX twX ha6) upd_same (.cons (.str (by decide)) .nil)
  replace Gl := GoodL.cons A (dh_flat (by decide) (by simp [D.isT])) (Gl.mono (Kp.new (M := [Tb, Tw]) (o := .tup [V.str "not"]) ha6))
  replace kX : Kp [Tb, Tw] HL (upd HX a6 (.tup [V.str "not"])) := kX.trans (Kp.new ha6)
  replace tbX := tab_new (o := .tup [V.str "not"]) tbX ha6
  replace twX := tab_new (o := .tup [V.str "not"]) twX ha6
  clear A
  generalize upd HX a6 (.tup [V.str "not"]) = HX at Gl kX tbX twX ⊢
  refine ⟨_, rfl, _, _, _, _, rfl, rfl, SqL.of (kX _ _ lw6.k.1 lw6.k.2), atI_nat (j := 0) (show (kn.map V.str)[0]? = some (V.str k0) by rw [List.getElem?_map, k0e]; rfl), by simp; decide, fun a7 ha7 => ?_⟩
  have A : DS [Tb, Tw] (upd HX a7 (.tup [V.str "name", V.str "x", V.str k0])) (.ref a7) (.tup [.str "name", .str "x", .str k0]) := .tup (nz tbX twX ha7) upd_same (.cons (.str (by decide)) (.cons (.str (by decide)) (.cons (.str k0l) .nil)))
  replace Gl := GoodL.cons A (dh_flat (by simp) (by simp [D.isT])) (Gl.mono (Kp.new (M := [Tb, Tw]) (o := .tup [V.str "name", V.str "x", V.str k0]) ha7))
  replace kX : Kp [Tb, Tw] HL (upd HX a7 (.tup [V.str "name", V.str "x", V.str k0])) := kX.trans (Kp.new ha7)
  replace tbX := tab_new (o := .tup [V.str "name", V.str "x", V.str k0]) tbX ha7
  replace twX := tab_new (o := .tup [V.str "name", V.str "x", V.str k0]) twX ha7
  clear A
  generalize upd HX a7 (.tup [V.str "name", V.str "x", V.str k0]) = HX at Gl kX tbX twX ⊢
  refine ⟨by simp; decide, fun l1 hl1 => ?_⟩
  have G1 : GoodL [Tb, Tw] HX [V.non, V.bl true, V.int 0, V.str "no", V.str "", V.ref a1, V.ref a2, V.ref a3, V.ref a4, V.ref a5, V.ref a6, V.ref a7] := by
    obtain ⟨ds, e1, e2⟩ := Gl
    cases e1 with
    | @cons _ _ d7 _ x7 e1 =>
    cases e1 with
    | @cons _ _ d6 _ x6 e1 =>
    cases e1 with
    | @cons _ _ d5 _ x5 e1 =>
    cases e1 with
    | @cons _ _ d4 _ x4 e1 =>
    cases e1 with
    | @cons _ _ d3 _ x3 e1 =>
    cases e1 with
    | @cons _ _ d2 _ x2 e1 =>
    cases e1 with
    | @cons _ _ d1 _ x1 e1 =>
    cases e1
    exact .cons .non trivial (.cons .bl trivial (.cons .int trivial (.cons (.str (by decide)) trivial (.cons (.str (by decide)) trivial
      (.cons x1 (e2 _ (by simp)) (.cons x2 (e2 _ (by simp)) (.cons x3 (e2 _ (by simp)) (.cons x4 (e2 _ (by simp)) (.cons x5 (e2 _ (by simp)) (.cons x6 (e2 _ (by simp)) (.cons x7 (e2 _ (by simp)) .nil)))))))))))
  have nl1 := nz tbX twX hl1
  replace G1 := G1.mono (Kp.new (M := [Tb, Tw]) (o := .lst [V.non, V.bl true, V.int 0, V.str "no", V.str "", V.ref a1, V.ref a2, V.ref a3, V.ref a4, V.ref a5, V.ref a6, V.ref a7]) hl1)
  replace kX : Kp [Tb, Tw] HL (upd HX l1 (.lst [V.non, V.bl true, V.int 0, V.str "no", V.str "", V.ref a1, V.ref a2, V.ref a3, V.ref a4, V.ref a5, V.ref a6, V.ref a7])) := kX.trans (Kp.new hl1)
  replace tbX := tab_new (o := .lst [V.non, V.bl true, V.int 0, V.str "no", V.str "", V.ref a1, V.ref a2, V.ref a3, V.ref a4, V.ref a5, V.ref a6, V.ref a7]) tbX hl1
  replace twX := tab_new (o := .lst [V.non, V.bl true, V.int 0, V.str "no", V.str "", V.ref a1, V.ref a2, V.ref a3, V.ref a4, V.ref a5, V.ref a6, V.ref a7]) twX hl1
  have hl1' : upd HX l1 (.lst [V.non, V.bl true, V.int 0, V.str "no", V.str "", V.ref a1, V.ref a2, V.ref a3, V.ref a4, V.ref a5, V.ref a6, V.ref a7]) l1 = some (.lst [V.non, V.bl true, V.int 0, V.str "no", V.str "", V.ref a1, V.ref a2, V.ref a3, V.ref a4, V.ref a5, V.ref a6, V.ref a7]) := upd_same
  generalize upd HX l1 (.lst [V.non, V.bl true, V.int 0, V.str "no", V.str "", V.ref a1, V.ref a2, V.ref a3, V.ref a4, V.ref a5, V.ref a6, V.ref a7]) = HX at G1 kX tbX twX hl1' ⊢
  clear Gl
  generalize [V.non, V.bl true, V.int 0, V.str "no", V.str "", V.ref a1, V.ref a2, V.ref a3, V.ref a4, V.ref a5, V.ref a6, V.ref a7] = u1 at G1 hl1'
  refine ⟨l1, rfl, ⟨_, SqL.of hl1'⟩, for_list (xs := u1) (fun i σ' H' => ∃ o7 : Option V, σ' = [some (V.ref a), some (V.ref p0), some (V.ref g0), some (V.ref g), some (V.ref d), none, some (V.ref Dd), o7, none, none, none, none, none] ∧ Kp [Tb, Tw] HX H' ∧ TabG H' Tb ∧ TabG H' Tw)
    ⟨_, rfl, .refl _, tbX, twX⟩ (fun i σ' H' _ q => ?_) (fun i v σ' HA hv q => ?_) (fun σ' H' q => ?_)⟩
  · obtain ⟨_, _, k, _⟩ := q
    exact SqL.of (k _ _ nl1 hl1')
  · obtain ⟨o7, rfl, kA, tA, wA⟩ := q
    obtain ⟨e, E1, E2⟩ := G1.get hv
    have k6 := kX.trans kA
    refine ⟨_, rfl, _, rfl, _, rfl, _, rfl, _, rfl, _, _, _, _, rfl, rfl, SqL.of (k6 _ _ lw6.k.1 lw6.k.2), kzl, _, rfl, [Tb, Tw], g, d, Dd, kz, v, e, kn, rws, rfl, mm, kzm, gr6.mono k6, lw6.mono k6, E1.mono kA, E2, by decide, tA, wA, fun HB kB tB wB => ⟨true, rfl, iteF ⟨_, rfl, kA.trans kB, tB, wB⟩⟩⟩
  obtain ⟨o7, rfl, kA, tA, wA⟩ := q
  obtain ⟨e7, B7, hd7, tb7, tw7, hx7⟩ := unF B5 hHL.symm (kX.trans kA) tA wA hx5 tb5 tw5 hd5
  refine ⟨e7, ?_⟩
  clear G1 hl1' nl1 kX tbX twX gr6 lw6 tb6 tw6 hHL B5 hd5 tb5 tw5 hx5 kA tA wA e7 k0l
  generalize upd H' d (.dK kvs) = H7 at B7 hd7 tb7 tw7 hx7 ⊢
  -- the great ones
  refine ⟨d, .dK kvs, hd7, trivial, fun od => ?_⟩
  obtain ⟨gr8, lw8, tb8, tw8⟩ := lockF B7 hd7 tb7 tw7 od
  have hx8 : SqL K (upd H7 d (.frz od (.dK kvs))) a (xs.map V.int) := sql_kp hx7 (Kp.upd (M := [d]) (by simp)) fun x hx o e => by
    rw [List.mem_singleton.mp hx, hd7] at e
    rw [← Option.some.inj e]
    exact ⟨fun l z => (nomatch z), fun ob l z => (nomatch z)⟩
  generalize hHL : upd H7 d (.frz od (.dK kvs)) = HL at gr8 lw8 tb8 tw8 hx8 ⊢
  refine ⟨by simp; decide, fun z4 hz4 => ?_⟩
  have t4 : Same HL (upd HL z4 (.lst [V.int 7])) := KD.Same.upd hz4
  have hz4' : upd HL z4 (.lst [V.int 7]) z4 = some (.lst [V.int 7]) := upd_same
  generalize upd HL z4 (.lst [V.int 7]) = HM at t4 hz4' ⊢
  refine ⟨_, rfl, 1, rfl, 6, rfl, a, xs.map V.int, rfl, sqlS hx8 t4, fun z5 hz5 => ?_⟩
  have hcl : ∀ v ∈ cutV (xs.map V.int) (some 1) (some 6), ∃ i, v = V.int i := fun v hv => by
    obtain ⟨i, _, e⟩ := List.mem_map.mp (List.mem_of_mem_drop (List.mem_of_mem_take hv))
    exact ⟨i, e.symm⟩
  have lcl : (cutV (xs.map V.int) (some 1) (some 6)).length ≤ 63 := Nat.le_trans (cutV_length _ _ _) (by rw [List.length_map]; exact lx)
  generalize cutV (xs.map V.int) (some 1) (some 6) = cl at hcl lcl ⊢
  have t5 : Same HM (upd HM z5 (.lst cl)) := KD.Same.upd hz5
  refine ⟨z4, z5, _, _, rfl, rfl, t5 _ _ hz4', upd_same, ?_, fun z6 hz6 => ?_⟩
  · exact Nat.le_trans (show 1 + cl.length ≤ 1000 by omega) (by decide)
  have t6 : Same HL (upd (upd HM z5 (.lst cl)) z6 (.lst ([V.int 7] ++ cl))) := (t4.trans t5).trans (KD.Same.upd hz6)
  have hz6' : upd (upd HM z5 (.lst cl)) z6 (.lst ([V.int 7] ++ cl)) z6 = some (.lst ([V.int 7] ++ cl)) := upd_same
  have hcl2 : ∀ v ∈ [V.int 7] ++ cl, ∃ i, v = V.int i := fun v hv => by
    rcases List.mem_append.mp hv with h | h
    · exact ⟨7, List.mem_singleton.mp h⟩
    · exact hcl v h
  have k86 : Kp [Tb, Tw] HL (upd (upd HM z5 (.lst cl)) z6 (.lst ([V.int 7] ++ cl))) := Kp.same t6
  have nz6 : z6 ∉ [Tb, Tw] := nz (tab_kp (tab_kp tb8 (Kp.same (M := []) t4) (by simp)) (Kp.same (M := []) t5) (by simp)) (tab_kp (tab_kp tw8 (Kp.same (M := []) t4) (by simp)) (Kp.same (M := []) t5) (by simp)) hz6
  have tbF := tab_kp tb8 (Kp.same (M := []) t6) (by simp)
  have twF := tab_kp tw8 (Kp.same (M := []) t6) (by simp)
  have grF := gr8.mono k86
  have lwF := lw8.mono k86
  generalize upd (upd HM z5 (.lst cl)) z6 (.lst ([V.int 7] ++ cl)) = HF at k86 hz6' tbF twF grF lwF ⊢
  generalize [V.int 7] ++ cl = cls at hz6' hcl2 ⊢
  clear hcl lcl t4 t5 t6 hz4 hz4' hz5 hz6 gr8 lw8 tb8 tw8 hx8
  refine ⟨z6, rfl, ⟨_, SqL.of hz6'⟩, for_list (xs := cls) (fun i σ' H' => ∃ (o5 o7 o8 o9 o10 : Option V), σ' = [some (V.ref a), some (V.ref p0), some (V.ref g0), some (V.ref g), some (V.ref d), o5, some (V.ref Dd), o7, o8, o9, o10, none, none] ∧ Kp [Tb, Tw] HF H' ∧ TabG H' Tb ∧ TabG H' Tw)
    ⟨_, _, _, _, _, rfl, .refl _, tbF, twF⟩ (fun i σ' H' _ q => ?_) (fun i v σ' HA hv q => ?_) (fun σ' H' q => ?_)⟩
  · obtain ⟨_, _, _, _, _, _, k, _⟩ := q
    exact SqL.of (k _ _ nz6 hz6')
  · obtain ⟨o5, o7, o8, o9, o10, rfl, kA, tA, wA⟩ := q
    obtain ⟨i0, rfl⟩ := hcl2 v (List.mem_of_getElem? hv)
    -- the line
    refine ⟨_, rfl, i0, rfl, fun p HB hp sB pB => ?_⟩
    have np : p ∉ [Tb, Tw] := nz tA wA hp
    have grB : GrAt [p, Tb, Tw] C HB g (grOf kn rws) := ((grF.mono kA).fresh hp).mono (Kp.same sB)
    have lwB : LwM [p, Tb, Tw] HB d Dd kn rws := ((lwF.mono kA).fresh hp).mono (Kp.same sB)
    have tB := tab_kp tA (Kp.same (M := []) sB) (by simp)
    have wB := tab_kp wA (Kp.same (M := []) sB) (by simp)
    have nkp : Dd ≠ p := fun e => lwB.k.1 (by simp [e])
    -- the kind
    refine pick_at rfl rfl pB lwB.k.2 nkp (by rw [List.length_map]; exact kl1) (by rw [List.length_map]; omega) fun v HC hv bC pC => ?_
    obtain ⟨kd, hkd, rfl⟩ := List.mem_map.mp hv
    have lkd := g_len (kng kd hkd)
    -- the great one
    refine ⟨_, rfl, _, rfl, p, kd, rfl, pC, lkd, fun v7 t7 HD bD pD dD hD7 cD => ?_⟩
    have kBD : Kp [p] HB HD := kp_but (bC.trans bD)
    -- the other one
    refine ⟨_, rfl, _, rfl, _, rfl, v7, t7, rfl, dD.drop (by simp), hD7, fun HE sE => ⟨p, cnt 62 t7, rfl, pD.same sE, cnt_pos hD7, cD, fun r HG lr bG pG => ⟨by simp; decide, fun l hl => ?_⟩⟩⟩
    have nlp : l ∉ [p] := not1 pG hl
    have kBG : Kp [p] HB HG := (kBD.trans (Kp.same sE)).trans (kp_but bG)
    have kDG : Kp [p] HD HG := (Kp.same sE).trans (kp_but bG)
    have sI : Same HG (upd HG l (.lst [V.int r])) := KD.Same.upd hl
    have pI := pG.same sI
    have hlI : upd HG l (.lst [V.int r]) l = some (.lst [V.int r]) := upd_same
    have dI : DS [l, p] (upd HG l (.lst [V.int r])) v7 t7 := (DS.fresh hl (dD.mono kDG)).mono (Kp.same sI)
    have lwI : LwM [l, p] (upd HG l (.lst [V.int r])) d Dd kn rws := (((lwB.mono (kBG.sub (by simp))).drop (N := [p]) (by simp)).fresh hl).mono (Kp.same sI)
    generalize upd HG l (.lst [V.int r]) = HI at sI pI hlI dI lwI ⊢
    have alI : ∀ x ∈ [l, p], HI x ≠ none := fun x hx z => by
      simp at hx
      rcases hx with rfl | rfl
      · rw [hlI] at z; exact nomatch z
      · obtain ⟨_, _, e, _⟩ := pI
        rw [e] at z; exact nomatch z
    refine ⟨_, rfl, by simp; decide, fun zn hzn => ?_⟩
    have sJ : Same HI (upd HI zn (.tup [V.str "no"])) := KD.Same.upd hzn
    have pJ := pI.same sJ
    have dN : DS [l, p] (upd HI zn (.tup [V.str "no"])) (.ref zn) (.tup [.str "no"]) := .tup (fun z => alI zn z hzn) upd_same (.cons (.str (by decide)) .nil)
    have lwJ := lwI.mono (Kp.same sJ)
    have dJ := dI.mono (Kp.same sJ)
    have hlJ := sJ _ _ hlI
    have alJ : ∀ x ∈ [l, p], (upd HI zn (.tup [V.str "no"])) x ≠ none := fun x hx z => by
      cases e : HI x with
      | none => exact alI x hx e
      | some o => rw [sJ _ _ e] at z; exact nomatch z
    generalize upd HI zn (.tup [V.str "no"]) = HJ at sJ pJ dN lwJ dJ hlJ alJ ⊢
    refine ⟨_, rfl, _, rfl, [l, p], p, d, Dd, .ref zn, .tup [.str "no"], kn, rws, rfl, by simp, alJ, pJ, dN, dh_flat (by decide) (by simp [D.isT]), by decide, by decide, lwJ, kl1, by omega, by omega, fun u b HK bK pK dK hK => ?_⟩
    have sGJ := sI.trans sJ
    have plk : l ≠ p := by simpa using nlp
    have kJK : Kp [l, p] HJ HK := (kp_but bK).sub (by simp)
    have hlK := bK _ _ plk hlJ
    have alK : ∀ x ∈ [l, p], HK x ≠ none := fun x hx z => by
      simp at hx
      rcases hx with rfl | rfl
      · rw [hlK] at z; exact nomatch z
      · obtain ⟨_, _, e, _⟩ := pK
        rw [e] at z; exact nomatch z
    refine ⟨[l, p], v7, u, l, r, t7, b, rfl, by simp, alK, hlK, dJ.mono kJK, hD7, dK, hK, fun v10 t10 n' HO kO hlO dO hO => ?_⟩
    have kGO : Kp [p] HG HO := (((Kp.same sGJ).trans kJK).trans (kO.sub (by simp))).old hl
    have kBO := kBG.trans kGO
    have kDO := kDG.trans kGO
    have grO := (grB.mono (kBO.sub (by simp))).drop (N := [Tb, Tw]) (by simp)
    have lwO := (lwB.mono (kBO.sub (by simp))).drop (N := [Tb, Tw]) (by simp)
    have npT : Tb ∉ [p] ∧ Tw ∉ [p] := by
      simp at np ⊢
      exact ⟨fun z => np.1 z.symm, fun z => np.2 z.symm⟩
    have tO := tab_kp tB kBO npT.1
    have wO := tab_kp wB kBO npT.2
    have dO7 := (dD.mono kDO).tabs tO wO
    have dO10 := dO.tabs tO wO
    have kAO : Kp [] HA HO := Kp.old (M := []) ((Kp.same sB).trans kBO) hp
    -- are they right
    refine ⟨_, rfl, _, rfl, _, rfl, _, rfl, _, rfl, [Tb, Tw], g, d, Dd, kd, v7, t7, kn, rws, rfl, mm, hkd, grO, lwO, dO7, hD7, by decide, tO, wO, fun HP kP tP wP => ⟨true, rfl, iteF ?_⟩⟩
    refine ⟨_, rfl, _, rfl, _, rfl, _, rfl, _, rfl, [Tb, Tw], g, d, Dd, kd, v10, t10, kn, rws, rfl, mm, hkd, grO.mono kP, lwO.mono kP, dO10.mono kP, hO, by decide, tP, wP, fun HR kR tR wR => ⟨true, rfl, iteF ?_⟩⟩
    exact ⟨_, _, _, _, _, rfl, ((kA.trans (kAO.sub (by simp))).trans kP).trans kR, tR, wR⟩
  obtain ⟨o5, o7, o8, o9, o10, rfl, kA, tA, wA⟩ := q
  obtain ⟨e9, B9, hd9, tb9, tw9, hx9⟩ := unF B7 hHL.symm (k86.trans kA) tA wA hx7 tb7 tw7 hd7
  refine ⟨e9, ?_⟩
  clear hHL B7 hd7 tb7 tw7 hx7 kA tA wA e9 hz6' hcl2 k86 nz6 tbF twF grF lwF
  generalize upd H' d (.dK kvs) = H9 at B9 hd9 tb9 tw9 hx9 ⊢
  -- the drawn sayings
  refine ⟨d, .dK kvs, hd9, trivial, fun od => ?_⟩
  obtain ⟨gr8, lw8, tb8, tw8⟩ := lockF B9 hd9 tb9 tw9 od
  have hx8 : SqL K (upd H9 d (.frz od (.dK kvs))) a (xs.map V.int) := sql_kp hx9 (Kp.upd (M := [d]) (by simp)) fun x hx o e => by
    rw [List.mem_singleton.mp hx, hd9] at e
    rw [← Option.some.inj e]
    exact ⟨fun l z => (nomatch z), fun ob l z => (nomatch z)⟩
  generalize hHL : upd H9 d (.frz od (.dK kvs)) = HL at gr8 lw8 tb8 tw8 hx8 ⊢
  refine ⟨by simp; decide, fun z4 hz4 => ?_⟩
  have t4 : Same HL (upd HL z4 (.lst [V.int 7])) := KD.Same.upd hz4
  have hz4' : upd HL z4 (.lst [V.int 7]) z4 = some (.lst [V.int 7]) := upd_same
  generalize upd HL z4 (.lst [V.int 7]) = HM at t4 hz4' ⊢
  refine ⟨_, rfl, 1, rfl, 40, rfl, a, xs.map V.int, rfl, sqlS hx8 t4, fun z5 hz5 => ?_⟩
  have hcl : ∀ v ∈ cutV (xs.map V.int) (some 1) (some 40), ∃ i, v = V.int i := fun v hv => by
    obtain ⟨i, _, e⟩ := List.mem_map.mp (List.mem_of_mem_drop (List.mem_of_mem_take hv))
    exact ⟨i, e.symm⟩
  have lcl : (cutV (xs.map V.int) (some 1) (some 40)).length ≤ 63 := Nat.le_trans (cutV_length _ _ _) (by rw [List.length_map]; exact lx)
  generalize cutV (xs.map V.int) (some 1) (some 40) = cl at hcl lcl ⊢
  have t5 : Same HM (upd HM z5 (.lst cl)) := KD.Same.upd hz5
  refine ⟨z4, z5, _, _, rfl, rfl, t5 _ _ hz4', upd_same, ?_, fun z6 hz6 => ?_⟩
  · exact Nat.le_trans (show 1 + cl.length ≤ 1000 by omega) (by decide)
  have t6 : Same HL (upd (upd HM z5 (.lst cl)) z6 (.lst ([V.int 7] ++ cl))) := (t4.trans t5).trans (KD.Same.upd hz6)
  have hz6' : upd (upd HM z5 (.lst cl)) z6 (.lst ([V.int 7] ++ cl)) z6 = some (.lst ([V.int 7] ++ cl)) := upd_same
  have hcl2 : ∀ v ∈ [V.int 7] ++ cl, ∃ i, v = V.int i := fun v hv => by
    rcases List.mem_append.mp hv with h | h
    · exact ⟨7, List.mem_singleton.mp h⟩
    · exact hcl v h
  have k86 : Kp [Tb, Tw] HL (upd (upd HM z5 (.lst cl)) z6 (.lst ([V.int 7] ++ cl))) := Kp.same t6
  have nz6 : z6 ∉ [Tb, Tw] := nz (tab_kp (tab_kp tb8 (Kp.same (M := []) t4) (by simp)) (Kp.same (M := []) t5) (by simp)) (tab_kp (tab_kp tw8 (Kp.same (M := []) t4) (by simp)) (Kp.same (M := []) t5) (by simp)) hz6
  have tbF := tab_kp tb8 (Kp.same (M := []) t6) (by simp)
  have twF := tab_kp tw8 (Kp.same (M := []) t6) (by simp)
  have grF := gr8.mono k86
  have lwF := lw8.mono k86
  generalize upd (upd HM z5 (.lst cl)) z6 (.lst ([V.int 7] ++ cl)) = HF at k86 hz6' tbF twF grF lwF ⊢
  generalize [V.int 7] ++ cl = cls at hz6' hcl2 ⊢
  clear hcl lcl t4 t5 t6 hz4 hz4' hz5 hz6 gr8 lw8 tb8 tw8 hx8
  refine ⟨z6, rfl, ⟨_, SqL.of hz6'⟩, for_list (xs := cls) (fun i σ' H' => ∃ (o5 o7 o8 o9 o10 o11 o12 : Option V), σ' = [some (V.ref a), some (V.ref p0), some (V.ref g0), some (V.ref g), some (V.ref d), o5, some (V.ref Dd), o7, o8, o9, o10, o11, o12] ∧ Kp [Tb, Tw] HF H' ∧ TabG H' Tb ∧ TabG H' Tw)
    ⟨_, _, _, _, _, _, _, rfl, .refl _, tbF, twF⟩ (fun i σ' H' _ q => ?_) (fun i v σ' HA hv q => ?_) (fun σ' H' q => ?_)⟩
  · obtain ⟨_, _, _, _, _, _, _, _, k, _⟩ := q
    exact SqL.of (k _ _ nz6 hz6')
  · obtain ⟨o5, o7, o8, o9, o10, o11, o12, rfl, kA, tA, wA⟩ := q
    obtain ⟨i0, rfl⟩ := hcl2 v (List.mem_of_getElem? hv)
    -- the line
    refine ⟨_, rfl, i0, rfl, fun p HB hp sB pB => ?_⟩
    have np : p ∉ [Tb, Tw] := nz tA wA hp
    have grB : GrAt [p, Tb, Tw] C HB g (grOf kn rws) := ((grF.mono kA).fresh hp).mono (Kp.same sB)
    have lwB : LwM [p, Tb, Tw] HB d Dd kn rws := ((lwF.mono kA).fresh hp).mono (Kp.same sB)
    have tB := tab_kp tA (Kp.same (M := []) sB) (by simp)
    have wB := tab_kp wA (Kp.same (M := []) sB) (by simp)
    have nkp : Dd ≠ p := fun e => lwB.k.1 (by simp [e])
    -- the kind
    refine pick_at rfl rfl pB lwB.k.2 nkp (by rw [List.length_map]; exact kl1) (by rw [List.length_map]; omega) fun v HC hv bC pC => ?_
    obtain ⟨kd, hkd, rfl⟩ := List.mem_map.mp hv
    have lkd := g_len (kng kd hkd)
    have kBC := kp_but bC
    -- what stands around
    refine ⟨Nat.zero_le _, fun y1 hy1 => ?_⟩
    have ny1 := not1 pC hy1
    have q1 : Same HC (upd HC y1 (.lst [])) := KD.Same.upd hy1
    have pC1 := pC.same q1
    have e1 : upd HC y1 (.lst []) y1 = some (.lst (([] : List Str).map V.str)) := upd_same
    generalize upd HC y1 (.lst []) = HC1 at q1 pC1 e1 ⊢
    refine ⟨_, rfl, by simp; decide, fun y2 hy2 => ?_⟩
    have ny2 := not1 pC1 hy2
    have q2 : Same HC1 (upd HC1 y2 (.lst [V.str kd])) := KD.Same.upd hy2
    have pC2 := pC1.same q2
    have e2 : upd HC1 y2 (.lst [V.str kd]) y2 = some (.lst ([kd].map V.str)) := upd_same
    generalize upd HC1 y2 (.lst [V.str kd]) = HC2 at q2 pC2 e2 ⊢
    refine ⟨by simp; decide, fun y3 hy3 => ?_⟩
    have ny3 := not1 pC2 hy3
    have q3 : Same HC2 (upd HC2 y3 (.lst [V.ref y1, V.ref y2])) := KD.Same.upd hy3
    have pC3 := pC2.same q3
    have e3 : upd HC2 y3 (.lst [V.ref y1, V.ref y2]) y3 = some (.lst [V.ref y1, V.ref y2]) := upd_same
    have e13 := q3 _ _ (q2 _ _ e1)
    have e23 := q3 _ _ e2
    generalize upd HC2 y3 (.lst [V.ref y1, V.ref y2]) = HC3 at q3 pC3 e3 e13 e23 ⊢
    refine ⟨_, rfl, p, 2, rfl, pC3, by decide, by decide, fun r1 HC4 lr1 b4 pC4 => ?_⟩
    have k4 := kp_but b4
    obtain ⟨ya, as, hya, nya, hyaa, las, mas⟩ : ∃ (ya : Addr) (as : List Str), [V.ref y1, V.ref y2][r1]? = some (V.ref ya) ∧ ya ∉ [p] ∧ HC4 ya = some (.lst (as.map V.str)) ∧ as.length ≤ 1 ∧ True := by
      match r1, lr1 with
      | 0, _ => exact ⟨y1, [], rfl, ny1, k4 _ _ ny1 e13, by decide, trivial⟩
      | 1, _ => exact ⟨y2, [kd], rfl, ny2, k4 _ _ ny2 e23, by simp, trivial⟩
    refine ⟨_, _, _, _, rfl, rfl, SqL.of (k4 _ _ ny3 e3), atI_nat hya, ?_⟩
    refine ⟨_, rfl, p, 2, rfl, pC4, by decide, by decide, fun r2 HC5 lr2 b5 pC5 => ⟨_, _, rfl, rfl, ?_⟩⟩
    have k5 := kp_but b5
    -- the saying
    refine ⟨_, rfl, _, rfl, _, rfl, by simp; decide, fun nl hnl => ?_⟩
    have nnl := not1 pC5 hnl
    have q6 : Same HC5 (upd HC5 nl (.lst [V.str "x", V.str "yy"])) := KD.Same.upd hnl
    have pC6 := pC5.same q6
    have e6 : upd HC5 nl (.lst [V.str "x", V.str "yy"]) nl = some (.lst ([("x" : Str), "yy"].map V.str)) := upd_same
    generalize upd HC5 nl (.lst [V.str "x", V.str "yy"]) = HC6 at q6 pC6 e6 ⊢
    have kB6 : Kp [p] HB HC6 := ((((((kBC.trans (Kp.same q1)).trans (Kp.same q2)).trans (Kp.same q3)).trans k4).trans k5).trans (Kp.same q6))
    have lw6 := lwB.mono (kB6.sub (by simp))
    obtain ⟨⟨nd6, od6, kvs6, hd6, ek6⟩, nn6, ⟨nk6, hk6⟩, g6, r6⟩ := lw6
    have hya6 := q6 _ _ (k5 _ _ nya hyaa)
    refine ⟨_, rfl, _, rfl, _, _, rfl, rfl, .inl ⟨by omega, by omega⟩, _, _, rfl, rfl, _, rfl, ?_⟩
    refine ⟨p, d, Dd, nl, ya, od6, 3 - 2 * r2, 1 + r2, kvs6, rws, ["x", "yy"], kn, kn, as, ?_, by omega, by omega, pC6, hd6, len16, ek6.imp (fun q r f => f.drop (by simp)), nn6, r6, ⟨hk6, by simpa using nkp⟩, by omega, kl4, (fun x hx => hx), ⟨e6, nnl⟩, by decide, by decide, ?_, ⟨hya6, nya⟩, by omega, kng, fun v7 tt HD bD pD aD yD => ?_⟩
    · show [V.ref p, V.ref d, V.ref Dd, V.ref nl, V.ref ya, V.int ((5 : Int) - (2 : Int) * ((1 : Int) + (r2 : Int))), V.int ((1 : Int) + (r2 : Int))] = _
      rw [show (5 : Int) - (2 : Int) * ((1 : Int) + (r2 : Int)) = ((3 - 2 * r2 : Nat) : Int) by omega, show (1 : Int) + (r2 : Int) = ((1 + r2 : Nat) : Int) by omega]
    · intro y hy
      rcases List.mem_cons.mp hy with rfl | hy
      · exact KD.gX
      · rw [List.mem_singleton.mp hy]
        unfold KM.G
        decide +kernel
    have hMp : ∀ x ∈ [p], ∀ ts, HD x ≠ some (.tup ts) := fun x hx ts z => by
      obtain ⟨_, _, e, _⟩ := pD
      rw [List.mem_singleton.mp hx, e] at z
      exact nomatch z
    obtain ⟨t7, dD, th7⟩ := atD hMp yD.1 aD
    have th7' : th3 12 t7 := th3_le th7 (by omega)
    have hD7 := th3_dh th7'
    have cD : cnt 12 t7 < 1000000 := by
      have := th3_cnt th7'
      rw [show 3 ^ 12 = 531441 by decide] at this
      omega
    have kBD : Kp [p] HB HD := kB6.trans (kp_but bD)
    -- the other one
    refine ⟨_, rfl, _, rfl, _, rfl, v7, t7, rfl, dD.drop (by simp), hD7, fun HE sE => ⟨p, cnt 12 t7, rfl, pD.same sE, cnt_pos hD7, cD, fun r HG lr bG pG => ⟨by simp; decide, fun l hl => ?_⟩⟩⟩
    have nlp : l ∉ [p] := not1 pG hl
    have kBG : Kp [p] HB HG := (kBD.trans (Kp.same sE)).trans (kp_but bG)
    have kDG : Kp [p] HD HG := (Kp.same sE).trans (kp_but bG)
    have sI : Same HG (upd HG l (.lst [V.int r])) := KD.Same.upd hl
    have pI := pG.same sI
    have hlI : upd HG l (.lst [V.int r]) l = some (.lst [V.int r]) := upd_same
    have dI : DS [l, p] (upd HG l (.lst [V.int r])) v7 t7 := (DS.fresh hl (dD.mono kDG)).mono (Kp.same sI)
    have lwI : LwM [l, p] (upd HG l (.lst [V.int r])) d Dd kn rws := (((lwB.mono (kBG.sub (by simp))).drop (N := [p]) (by simp)).fresh hl).mono (Kp.same sI)
    generalize upd HG l (.lst [V.int r]) = HI at sI pI hlI dI lwI ⊢
    have alI : ∀ x ∈ [l, p], HI x ≠ none := fun x hx z => by
      simp at hx
      rcases hx with rfl | rfl
      · rw [hlI] at z; exact nomatch z
      · obtain ⟨_, _, e, _⟩ := pI
        rw [e] at z; exact nomatch z
    have pJ := pI
    have lwJ := lwI
    have dJ := dI
    have hlJ := hlI
    have alJ := alI
    have sGJ := sI
    refine ⟨_, rfl, _, rfl, _, rfl, _, rfl, [l, p], p, d, Dd, v7, t7, kn, rws, rfl, by simp, alJ, pJ, dJ, hD7, by decide, cD, lwJ, kl1, by omega, by omega, fun u b HK bK pK dK hK => ?_⟩
    have plk : l ≠ p := by simpa using nlp
    have kJK : Kp [l, p] HI HK := (kp_but bK).sub (by simp)
    have hlK := bK _ _ plk hlJ
    have alK : ∀ x ∈ [l, p], HK x ≠ none := fun x hx z => by
      simp at hx
      rcases hx with rfl | rfl
      · rw [hlK] at z; exact nomatch z
      · obtain ⟨_, _, e, _⟩ := pK
        rw [e] at z; exact nomatch z
    refine ⟨[l, p], v7, u, l, r, t7, b, rfl, by simp, alK, hlK, dJ.mono kJK, hD7, dK, hK, fun v10 t10 n' HO kO hlO dO hO => ?_⟩
    have kGO : Kp [p] HG HO := (((Kp.same sGJ).trans kJK).trans (kO.sub (by simp))).old hl
    have kBO := kBG.trans kGO
    have kDO := kDG.trans kGO
    have grO := (grB.mono (kBO.sub (by simp))).drop (N := [Tb, Tw]) (by simp)
    have lwO := (lwB.mono (kBO.sub (by simp))).drop (N := [Tb, Tw]) (by simp)
    have npT : Tb ∉ [p] ∧ Tw ∉ [p] := by
      simp at np ⊢
      exact ⟨fun z => np.1 z.symm, fun z => np.2 z.symm⟩
    have tO := tab_kp tB kBO npT.1
    have wO := tab_kp wB kBO npT.2
    have dO7 := (dD.mono kDO).tabs tO wO
    have dO10 := dO.tabs tO wO
    have kAO : Kp [] HA HO := Kp.old (M := []) ((Kp.same sB).trans kBO) hp
    -- are they right
    refine ⟨_, rfl, _, rfl, _, rfl, _, rfl, _, rfl, [Tb, Tw], g, d, Dd, kd, v7, t7, kn, rws, rfl, mm, hkd, grO, lwO, dO7, hD7, by decide, tO, wO, fun HP kP tP wP => ⟨true, rfl, iteF ?_⟩⟩
    refine ⟨_, rfl, _, rfl, _, rfl, _, rfl, _, rfl, [Tb, Tw], g, d, Dd, kd, v10, t10, kn, rws, rfl, mm, hkd, grO.mono kP, lwO.mono kP, dO10.mono kP, hO, by decide, tP, wP, fun HR kR tR wR => ⟨true, rfl, iteF ?_⟩⟩
    exact ⟨_, _, _, _, _, _, _, rfl, ((kA.trans (kAO.sub (by simp))).trans kP).trans kR, tR, wR⟩
  obtain ⟨o5, o7, o8, o9, o10, o11, o12, rfl, kA, tA, wA⟩ := q
  obtain ⟨e9, _, _, _, _, _⟩ := unF B9 hHL.symm (k86.trans kA) tA wA hx9 tb9 tw9 hd9
  exact ⟨e9, kq _⟩
end
end Q3


/-! LH1: the facts of the head. -/
namespace Q3
open PySem PySem.Spec PyProof.Rows L2 GenW GxR NdefX GX
open KD (top pTe pSa)
def dd (i : Nat) (x : Str) : He.DefD := ⟨(x, none), x, x, defArgs (top i), defBody (top i), defScope (top i), [], []⟩
def dm (j : Nat) (x q : Str) : He.DefD := ⟨("Ground", some x), x, q, defArgs (GN.met j), defBody (GN.met j), defScope (GN.met j), [], []⟩
def fnL : List He.DefD := [dd 5 "is_name", dd 6 "is_whole", dd 9 "kind_within", dd 10 "_kind_made", dd 12 "inner_of", dd 13 "signs_of", dd 19 "is_saying", dd 20 "is_body", dd 21 "_is_within", dd 39 "_need", dd 40 "_is_list", dd 41 "_is_row", dd 43 "_law_seed", dd 44 "_law_state", dd 45 "_law_draw", dd 46 "_law_word", dd 47 "_law_kinds", dd 48 "_law_works", dd 49 "_law_makes", dd 50 "_law_drawn_ground", dd 51 "_law_term", dd 52 "_law_saying", dd 53 "_law_kind_of", dd 54 "_law_is_name", dd 55 "_law_is", dd 56 "_law_count", dd 57 "_law_at", dd 58 "_law_replaced", dd 59 "_law_by", dd 60 "_law_signs", dd 61 "_law_right", dd 62 "_law_great", dd 63 "law", dm 0 "__init__" "Ground.__init__", dm 1 "_add_kind" "Ground._add_kind", dm 2 "_add_maker" "Ground._add_maker", dm 3 "_add_work" "Ground._add_work", dm 4 "_makers_falling" "Ground._makers_falling", dm 5 "_need_new" "Ground._need_new", dm 10 "takes_and_gives" "Ground.takes_and_gives", dm 12 "is_kind" "Ground.is_kind", dm 14 "is_work" "Ground.is_work", dm 15 "is_open" "Ground.is_open"]
def faL : List He.Fa := [.glo "is_name", .glo "is_whole", .glo "kind_within", .glo "_kind_made", .glo "inner_of", .glo "signs_of", .glo "is_saying", .glo "is_body", .glo "_is_within", .glo "_need", .glo "_is_list", .glo "_is_row", .glo "_law_seed", .glo "_law_state", .glo "_law_draw", .glo "_law_word", .glo "_law_kinds", .glo "_law_works", .glo "_law_makes", .glo "_law_drawn_ground", .glo "_law_term", .glo "_law_saying", .glo "_law_kind_of", .glo "_law_is_name", .glo "_law_is", .glo "_law_count", .glo "_law_at", .glo "_law_replaced", .glo "_law_by", .glo "_law_signs", .glo "_law_right", .glo "_law_great", .glo "law", .glo "WORDS", .glo "BINDS", .glo "LENGTHS", .glo "Ground", .free "isinstance", .free "str", .free "tuple", .free "int", .free "bool", .free "len", .free "all", .free "sum", .free "dict", .free "enumerate", .free "list", .free "zip", .free "any", .free "range", .free "max", .free "min", .free "sorted", .free "set", .int "MOST_LETTERS" 8, .int "MOST_TAKEN" 4, .int "MOST_MAKERS" 6, .int "MOST_KINDS" 8, .int "MOST_WORKS" 16, .str "LETTERS" GN.letters, .cls "Ground", .noat "Ground" "_makers", .noat "Ground" "_takes", .noat "Ground" "_gives", .noat "Ground" "_falls_at", .noat "Ground" "_rights", .meth "Ground" "_add_kind", .meth "Ground" "_add_maker", .meth "Ground" "_add_work", .meth "Ground" "_makers_falling", .meth "Ground" "_need_new", .meth "Ground" "takes_and_gives", .meth "Ground" "is_kind", .meth "Ground" "is_work", .meth "Ground" "is_open", .mkr "Ground"]
def tsL : List He.Tab := [(fun K => He.ga K "LENGTHS", ["same", "no", "not", "and", "or", "so", "all", "some"])]
def tfL : List He.Defn := [("is_name", none), ("Ground", some "_add_kind"), ("Ground", some "_add_work"), ("_is_within", none)]
def lenL : List (Str × He.Dv) := [("same", .int 3), ("no", .int 1), ("not", .int 2), ("and", .int 3), ("or", .int 3), ("so", .int 3), ("all", .int 3), ("some", .int 3)]
def wordsD : List He.Dv := [.str "no", .str "not", .str "and", .str "or", .str "so", .str "all", .str "some"]
def bindsD : List He.Dv := [.str "all", .str "some"]
def pO (K : PySem.W.Frag) (p : He.Defn) : Addr := (He.cT K p).2
abbrev t1 (K : PySem.W.Frag) : Addr := pO K ("is_name", none)
abbrev t2 (K : PySem.W.Frag) : Addr := pO K ("Ground", some "_add_kind")
abbrev t3 (K : PySem.W.Frag) : Addr := pO K ("Ground", some "_add_work")
abbrev t4 (K : PySem.W.Frag) : Addr := pO K ("_is_within", none)
def exL (K : PySem.W.Frag) : Bool := He.tupB K "WORDS" wordsD && (He.tupB K "BINDS" bindsD && (He.valsB K (He.ga K "LENGTHS") lenL && (decide (t2 K ≠ t1 K) && (decide (t3 K ≠ t1 K) && (decide (t3 K ≠ t2 K) && decide (t4 K ∉ [t1 K, t2 K, t3 K]))))))
theorem funT_of {K : PySem.W.Frag} {x q : Str} {p : He.Defn} {st : Stmt} {fd : FuncData} (F : Fun K x q st (He.fAd K p) fd) : FunT K x q st (He.fAd K p) fd (He.cT K p).1 := by
  obtain ⟨oc, od, kV, doc, pm, an, cdv, ct, osl, e, lk, hc⟩ := F.ex
  obtain ⟨c, rfl⟩ := He.codeIn_ref hc
  have ec : He.codeOf K p = c := He.codeOf_eq lk (by rw [e])
  refine ⟨⟨oc, od, kV, doc, pm, an, ct, osl, ?_, lk, ?_⟩, F.kp⟩
  · show fd = PySem.W.fnOf x q (defArgs st) (defBody st) (defScope st) .none kV doc pm an (.ref (He.codeOf K p)) ct
    rw [ec]
    exact e
  · show PySem.W.codeIn K (.ref (He.codeOf K p)) q = true
    rw [ec]
    exact hc
theorem glo_f {K : PySem.W.Frag} {h : Heap} {mg : Str → Option Value} (X : K.In h) (G : h.Ns mainGlobals mg) {x : Str} (c : (He.Fa.glo x).ok K = true) : mg x = some (.ref (He.fAd K (x, none))) := He.glo_ok X G c
theorem key_find {P : Params} {z : Str} : ∀ {l : List DictEntry} {ks : List Str}, l.map He.keyOf = He.keysIn P ks → z ∉ ks → l.find? (·.key.isStr z) = none ∧ l.any (·.refKey) = false
  | [], _, _, _ => ⟨rfl, rfl⟩
  | e :: l, [], h, _ => by cases h
  | e :: l, k :: ks, h, n => by
    have h1 : He.keyOf e :: l.map He.keyOf = some (k, PyData.keyHash P k) :: He.keysIn P ks := h
    injection h1 with h2 h3
    obtain ⟨a, b⟩ := key_find h3 fun z => n (List.mem_cons_of_mem _ z)
    have nk : ¬ k = z := fun e => n (by rw [e]; exact List.mem_cons_self)
    unfold He.keyOf at h2
    split at h2
    · rename_i x t q
      obtain ⟨h5, h6⟩ := Prod.mk.inj (Option.some.inj h2)
      have nx : ¬ x = z := fun e => nk (by rw [← h5]; exact e)
      refine ⟨?_, ?_⟩
      · rw [List.find?_cons, show e.key.isStr z = false by rw [q]; show (x == z) = false; simpa using nx]
        exact a
      · rw [List.any_cons, b, show e.refKey = false by unfold DictEntry.refKey; rw [q]]
        rfl
    · cases h2
theorem lg_of {K : PySem.W.Frag} {w : World} {mg : Str → Option Value} {B : Addr} (d : He.dicW K (He.ga K "LENGTHS") = some (He.keysIn w.params (lenL.map (·.1)))) (v : He.valsB K (He.ga K "LENGTHS") lenL = true) (m : mg "LENGTHS" = some (.ref (He.ga K "LENGTHS"))) (mb : mg "BINDS" = some (.ref B)) (bK : ∀ H : Hp, SqT K H B bindsV) : ∃ es n, LgQ K w mg (He.ga K "LENGTHS") B es n := by
  obtain ⟨es, n, D⟩ := He.dicW_ok d
  refine ⟨es, n, m, D, fun z => ?_, mb, bK⟩
  by_cases hz : z ∈ lenL.map (·.1)
  · obtain ⟨q, hq, rfl⟩ := List.mem_map.mp hz
    obtain ⟨u, e, r⟩ := He.valsB_ok v hq
    refine ⟨_, e, ?_⟩
    unfold lenL at hq
    simp only [List.mem_cons, List.not_mem_nil, or_false] at hq
    rcases hq with rfl | rfl | rfl | rfl | rfl | rfl | rfl | rfl <;> (obtain ⟨t, rfl⟩ := r; exact ⟨t, rfl⟩)
  · have dk : es.toList.map He.keyOf = He.keysIn w.params (lenL.map (·.1)) := by
      unfold He.dicW at d
      rw [D.at_] at d
      have d2 : (match decide (("dict" : String) = "dict") && ((#[] : Array (Option Value)).isEmpty && !(He.ga K "LENGTHS" == sysModules)) with
        | true => some (es.toList.map He.keyOf)
        | false => none) = some (He.keysIn w.params (lenL.map (·.1))) := d
      rw [D.low] at d2
      exact Option.some.inj d2
    obtain ⟨f1, f2⟩ := key_find dk hz
    have ln : lenW z = none := by
      unfold lenW
      repeat (rw [if_neg (fun e => hz (by rw [e]; simp [lenL]))])
    refine ⟨none, ?_, by rw [ln]⟩
    unfold PySem.W.nsIn
    rw [D.at_]
    show (match es.toList.find? (·.key.isStr z) with | some e => some (some e.val) | none => if es.toList.any (·.refKey) then none else some none) = some none
    rw [f1, f2]
    rfl

theorem facts {w : World} {K : PySem.W.Frag} {h : Heap} {mg : Str → Option Value} {f : Addr} (X : K.In h) (G : h.Ns mainGlobals mg) (hfa : mg ("law" : Str) = some (.ref f)) (c : He.SaysX faL fnL tsL tfL exL w h K) :
    LamX.LawAtS PySem.Challenge.rw_goalsmith_k31_sayings_told w K CX0 220 63 "_law_script" mg f h := by
  have cd := c.t.d
  obtain ⟨d5, D5⟩ := cd.def_ 0 (d := dd 5 "is_name") rfl
  have F5 : Fun K "is_name" "is_name" (top 5) (He.fAd K ("is_name", none)) d5 := He5.fun_of D5
  have m5 := glo_f X G (cd.fact 0 (f := .glo "is_name") rfl)
  have b5 : Binds K d5 ["thing"] [] := F5.binds fun _ _ _ _ _ _ us hl => match us, hl with | [_], _ => rfl
  have C5 : Cal K mg "is_name" ["thing"] (He.fAd K ("is_name", none)) d5 := ⟨m5, F5.kp, b5⟩
  obtain ⟨d6, D6⟩ := cd.def_ 1 (d := dd 6 "is_whole") rfl
  have F6 : Fun K "is_whole" "is_whole" (top 6) (He.fAd K ("is_whole", none)) d6 := He5.fun_of D6
  have m6 := glo_f X G (cd.fact 1 (f := .glo "is_whole") rfl)
  have b6 : Binds K d6 ["thing"] [] := F6.binds fun _ _ _ _ _ _ us hl => match us, hl with | [_], _ => rfl
  have C6 : Cal K mg "is_whole" ["thing"] (He.fAd K ("is_whole", none)) d6 := ⟨m6, F6.kp, b6⟩
  obtain ⟨d9, D9⟩ := cd.def_ 2 (d := dd 9 "kind_within") rfl
  have F9 : Fun K "kind_within" "kind_within" (top 9) (He.fAd K ("kind_within", none)) d9 := He5.fun_of D9
  have m9 := glo_f X G (cd.fact 2 (f := .glo "kind_within") rfl)
  have b9 : Binds K d9 nKw [] := F9.binds fun _ _ _ _ _ _ us hl => match us, hl with | [_, _, _], _ => rfl
  have C9 : Cal K mg "kind_within" nKw (He.fAd K ("kind_within", none)) d9 := ⟨m9, F9.kp, b9⟩
  obtain ⟨d10, D10⟩ := cd.def_ 3 (d := dd 10 "_kind_made") rfl
  have F10 : Fun K "_kind_made" "_kind_made" (top 10) (He.fAd K ("_kind_made", none)) d10 := He5.fun_of D10
  have m10 := glo_f X G (cd.fact 3 (f := .glo "_kind_made") rfl)
  have b10 : Binds K d10 pKm [] := F10.binds fun _ _ _ _ _ _ us hl => match us, hl with | [_, _, _, _], _ => rfl
  have C10 : Cal K mg "_kind_made" pKm (He.fAd K ("_kind_made", none)) d10 := ⟨m10, F10.kp, b10⟩
  obtain ⟨d12, D12⟩ := cd.def_ 4 (d := dd 12 "inner_of") rfl
  have F12 : Fun K "inner_of" "inner_of" (top 12) (He.fAd K ("inner_of", none)) d12 := He5.fun_of D12
  have m12 := glo_f X G (cd.fact 4 (f := .glo "inner_of") rfl)
  have b12 : Binds K d12 ["thing"] [] := F12.binds fun _ _ _ _ _ _ us hl => match us, hl with | [_], _ => rfl
  have C12 : Cal K mg "inner_of" ["thing"] (He.fAd K ("inner_of", none)) d12 := ⟨m12, F12.kp, b12⟩
  obtain ⟨d13, D13⟩ := cd.def_ 5 (d := dd 13 "signs_of") rfl
  have F13 : Fun K "signs_of" "signs_of" (top 13) (He.fAd K ("signs_of", none)) d13 := He5.fun_of D13
  have m13 := glo_f X G (cd.fact 5 (f := .glo "signs_of") rfl)
  have b13 : Binds K d13 ["thing"] [] := F13.binds fun _ _ _ _ _ _ us hl => match us, hl with | [_], _ => rfl
  have C13 : Cal K mg "signs_of" ["thing"] (He.fAd K ("signs_of", none)) d13 := ⟨m13, F13.kp, b13⟩
  obtain ⟨d19, D19⟩ := cd.def_ 6 (d := dd 19 "is_saying") rfl
  have F19 : Fun K "is_saying" "is_saying" (top 19) (He.fAd K ("is_saying", none)) d19 := He5.fun_of D19
  have m19 := glo_f X G (cd.fact 6 (f := .glo "is_saying") rfl)
  have b19 : Binds K d19 ["ground", "thing"] [] := F19.binds fun _ _ _ _ _ _ us hl => match us, hl with | [_, _], _ => rfl
  have C19 : Cal K mg "is_saying" ["ground", "thing"] (He.fAd K ("is_saying", none)) d19 := ⟨m19, F19.kp, b19⟩
  obtain ⟨d20, D20⟩ := cd.def_ 7 (d := dd 20 "is_body") rfl
  have F20 : Fun K "is_body" "is_body" (top 20) (He.fAd K ("is_body", none)) d20 := He5.fun_of D20
  have m20 := glo_f X G (cd.fact 7 (f := .glo "is_body") rfl)
  have b20 : Binds K d20 ["ground", "kind", "thing"] [] := F20.binds fun _ _ _ _ _ _ us hl => match us, hl with | [_, _, _], _ => rfl
  have C20 : Cal K mg "is_body" ["ground", "kind", "thing"] (He.fAd K ("is_body", none)) d20 := ⟨m20, F20.kp, b20⟩
  obtain ⟨d21, D21⟩ := cd.def_ 8 (d := dd 21 "_is_within") rfl
  have F21 : Fun K "_is_within" "_is_within" (top 21) (He.fAd K ("_is_within", none)) d21 := He5.fun_of D21
  have m21 := glo_f X G (cd.fact 8 (f := .glo "_is_within") rfl)
  have b21 : Binds K d21 pWi [] := F21.binds fun _ _ _ _ _ _ us hl => match us, hl with | [_, _, _], _ => rfl
  have C21 : Cal K mg "_is_within" pWi (He.fAd K ("_is_within", none)) d21 := ⟨m21, F21.kp, b21⟩
  obtain ⟨d39, D39⟩ := cd.def_ 9 (d := dd 39 "_need") rfl
  have F39 : Fun K "_need" "_need" (top 39) (He.fAd K ("_need", none)) d39 := He5.fun_of D39
  have m39 := glo_f X G (cd.fact 9 (f := .glo "_need") rfl)
  have b39 : Binds K d39 ["holds", "why"] [] := F39.binds fun _ _ _ _ _ _ us hl => match us, hl with | [_, _], _ => rfl
  have C39 : Cal K mg "_need" ["holds", "why"] (He.fAd K ("_need", none)) d39 := ⟨m39, F39.kp, b39⟩
  obtain ⟨d40, D40⟩ := cd.def_ 10 (d := dd 40 "_is_list") rfl
  have F40 : Fun K "_is_list" "_is_list" (top 40) (He.fAd K ("_is_list", none)) d40 := He5.fun_of D40
  have m40 := glo_f X G (cd.fact 10 (f := .glo "_is_list") rfl)
  have b40 : Binds K d40 ["thing", "most"] [] := F40.binds fun _ _ _ _ _ _ us hl => match us, hl with | [_, _], _ => rfl
  have C40 : Cal K mg "_is_list" ["thing", "most"] (He.fAd K ("_is_list", none)) d40 := ⟨m40, F40.kp, b40⟩
  obtain ⟨d41, D41⟩ := cd.def_ 11 (d := dd 41 "_is_row") rfl
  have F41 : Fun K "_is_row" "_is_row" (top 41) (He.fAd K ("_is_row", none)) d41 := He5.fun_of D41
  have m41 := glo_f X G (cd.fact 11 (f := .glo "_is_row") rfl)
  have b41 : Binds K d41 ["thing", "many"] [] := F41.binds fun _ _ _ _ _ _ us hl => match us, hl with | [_, _], _ => rfl
  have C41 : Cal K mg "_is_row" ["thing", "many"] (He.fAd K ("_is_row", none)) d41 := ⟨m41, F41.kp, b41⟩
  obtain ⟨d43, D43⟩ := cd.def_ 12 (d := dd 43 "_law_seed") rfl
  have F43 : Fun K "_law_seed" "_law_seed" (top 43) (He.fAd K ("_law_seed", none)) d43 := He5.fun_of D43
  have m43 := glo_f X G (cd.fact 12 (f := .glo "_law_seed") rfl)
  have b43 : Binds K d43 ["_law_script", "_law_k"] [] := F43.binds fun _ _ _ _ _ _ us hl => match us, hl with | [_, _], _ => rfl
  have C43 : Cal K mg "_law_seed" ["_law_script", "_law_k"] (He.fAd K ("_law_seed", none)) d43 := ⟨m43, F43.kp, b43⟩
  obtain ⟨d44, D44⟩ := cd.def_ 13 (d := dd 44 "_law_state") rfl
  have F44 : Fun K "_law_state" "_law_state" (top 44) (He.fAd K ("_law_state", none)) d44 := He5.fun_of D44
  have m44 := glo_f X G (cd.fact 13 (f := .glo "_law_state") rfl)
  have b44 : Binds K d44 ["_law_cell"] [] := F44.binds fun _ _ _ _ _ _ us hl => match us, hl with | [_], _ => rfl
  have C44 : Cal K mg "_law_state" ["_law_cell"] (He.fAd K ("_law_state", none)) d44 := ⟨m44, F44.kp, b44⟩
  obtain ⟨d45, D45⟩ := cd.def_ 14 (d := dd 45 "_law_draw") rfl
  have F45 : Fun K "_law_draw" "_law_draw" (top 45) (He.fAd K ("_law_draw", none)) d45 := He5.fun_of D45
  have m45 := glo_f X G (cd.fact 14 (f := .glo "_law_draw") rfl)
  have b45 : Binds K d45 ["_law_state_here", "_law_many"] [] := F45.binds fun _ _ _ _ _ _ us hl => match us, hl with | [_, _], _ => rfl
  have C45 : Cal K mg "_law_draw" ["_law_state_here", "_law_many"] (He.fAd K ("_law_draw", none)) d45 := ⟨m45, F45.kp, b45⟩
  obtain ⟨d46, D46⟩ := cd.def_ 15 (d := dd 46 "_law_word") rfl
  have F46 : Fun K "_law_word" "_law_word" (top 46) (He.fAd K ("_law_word", none)) d46 := He5.fun_of D46
  have m46 := glo_f X G (cd.fact 15 (f := .glo "_law_word") rfl)
  have b46 : Binds K d46 ["_law_state_here", "_law_others"] [] := F46.binds fun _ _ _ _ _ _ us hl => match us, hl with | [_, _], _ => rfl
  have C46 : Cal K mg "_law_word" ["_law_state_here", "_law_others"] (He.fAd K ("_law_word", none)) d46 := ⟨m46, F46.kp, b46⟩
  obtain ⟨d47, D47⟩ := cd.def_ 16 (d := dd 47 "_law_kinds") rfl
  have F47 : Fun K "_law_kinds" "_law_kinds" (top 47) (He.fAd K ("_law_kinds", none)) d47 := He5.fun_of D47
  have m47 := glo_f X G (cd.fact 16 (f := .glo "_law_kinds") rfl)
  have b47 : Binds K d47 ["_law_state_here", "_law_taken"] [] := F47.binds fun _ _ _ _ _ _ us hl => match us, hl with | [_, _], _ => rfl
  have C47 : Cal K mg "_law_kinds" ["_law_state_here", "_law_taken"] (He.fAd K ("_law_kinds", none)) d47 := ⟨m47, F47.kp, b47⟩
  obtain ⟨d48, D48⟩ := cd.def_ 17 (d := dd 48 "_law_works") rfl
  have F48 : Fun K "_law_works" "_law_works" (top 48) (He.fAd K ("_law_works", none)) d48 := He5.fun_of D48
  have m48 := glo_f X G (cd.fact 17 (f := .glo "_law_works") rfl)
  have b48 : Binds K d48 ["_law_state_here", "_law_kinds_here", "_law_taken"] [] := F48.binds fun _ _ _ _ _ _ us hl => match us, hl with | [_, _, _], _ => rfl
  have C48 : Cal K mg "_law_works" ["_law_state_here", "_law_kinds_here", "_law_taken"] (He.fAd K ("_law_works", none)) d48 := ⟨m48, F48.kp, b48⟩
  obtain ⟨d49, D49⟩ := cd.def_ 18 (d := dd 49 "_law_makes") rfl
  have F49 : Fun K "_law_makes" "_law_makes" (top 49) (He.fAd K ("_law_makes", none)) d49 := He5.fun_of D49
  have m49 := glo_f X G (cd.fact 18 (f := .glo "_law_makes") rfl)
  have b49 : Binds K d49 ["_law_kinds_here", "_law_works_here"] [] := F49.binds fun _ _ _ _ _ _ us hl => match us, hl with | [_, _], _ => rfl
  have C49 : Cal K mg "_law_makes" ["_law_kinds_here", "_law_works_here"] (He.fAd K ("_law_makes", none)) d49 := ⟨m49, F49.kp, b49⟩
  obtain ⟨d50, D50⟩ := cd.def_ 19 (d := dd 50 "_law_drawn_ground") rfl
  have F50 : Fun K "_law_drawn_ground" "_law_drawn_ground" (top 50) (He.fAd K ("_law_drawn_ground", none)) d50 := He5.fun_of D50
  have m50 := glo_f X G (cd.fact 19 (f := .glo "_law_drawn_ground") rfl)
  have b50 : Binds K d50 ["_law_state_here"] [] := F50.binds fun _ _ _ _ _ _ us hl => match us, hl with | [_], _ => rfl
  have C50 : Cal K mg "_law_drawn_ground" ["_law_state_here"] (He.fAd K ("_law_drawn_ground", none)) d50 := ⟨m50, F50.kp, b50⟩
  obtain ⟨d51, D51⟩ := cd.def_ 20 (d := dd 51 "_law_term") rfl
  have F51 : Fun K "_law_term" "_law_term" (top 51) (He.fAd K ("_law_term", none)) d51 := He5.fun_of D51
  have m51 := glo_f X G (cd.fact 20 (f := .glo "_law_term") rfl)
  have b51 : Binds K d51 pTe [] := F51.binds fun _ _ _ _ _ _ us hl => match us, hl with | [_, _, _, _, _, _], _ => rfl
  have C51 : Cal K mg "_law_term" pTe (He.fAd K ("_law_term", none)) d51 := ⟨m51, F51.kp, b51⟩
  obtain ⟨d52, D52⟩ := cd.def_ 21 (d := dd 52 "_law_saying") rfl
  have F52 : Fun K "_law_saying" "_law_saying" (top 52) (He.fAd K ("_law_saying", none)) d52 := He5.fun_of D52
  have m52 := glo_f X G (cd.fact 21 (f := .glo "_law_saying") rfl)
  have b52 : Binds K d52 pSa [] := F52.binds fun _ _ _ _ _ _ us hl => match us, hl with | [_, _, _, _, _, _, _], _ => rfl
  have C52 : Cal K mg "_law_saying" pSa (He.fAd K ("_law_saying", none)) d52 := ⟨m52, F52.kp, b52⟩
  obtain ⟨d53, D53⟩ := cd.def_ 22 (d := dd 53 "_law_kind_of") rfl
  have F53 : Fun K "_law_kind_of" "_law_kind_of" (top 53) (He.fAd K ("_law_kind_of", none)) d53 := He5.fun_of D53
  have m53 := glo_f X G (cd.fact 22 (f := .glo "_law_kind_of") rfl)
  have b53 : Binds K d53 pKo [] := F53.binds fun _ _ _ _ _ _ us hl => match us, hl with | [_, _, _, _], _ => rfl
  have C53 : Cal K mg "_law_kind_of" pKo (He.fAd K ("_law_kind_of", none)) d53 := ⟨m53, F53.kp, b53⟩
  obtain ⟨d54, D54⟩ := cd.def_ 23 (d := dd 54 "_law_is_name") rfl
  have F54 : Fun K "_law_is_name" "_law_is_name" (top 54) (He.fAd K ("_law_is_name", none)) d54 := He5.fun_of D54
  have m54 := glo_f X G (cd.fact 23 (f := .glo "_law_is_name") rfl)
  have b54 : Binds K d54 ["_law_thing"] [] := F54.binds fun _ _ _ _ _ _ us hl => match us, hl with | [_], _ => rfl
  have C54 : Cal K mg "_law_is_name" ["_law_thing"] (He.fAd K ("_law_is_name", none)) d54 := ⟨m54, F54.kp, b54⟩
  obtain ⟨d55, D55⟩ := cd.def_ 24 (d := dd 55 "_law_is") rfl
  have F55 : Fun K "_law_is" "_law_is" (top 55) (He.fAd K ("_law_is", none)) d55 := He5.fun_of D55
  have m55 := glo_f X G (cd.fact 24 (f := .glo "_law_is") rfl)
  have b55 : Binds K d55 pIs [] := F55.binds fun _ _ _ _ _ _ us hl => match us, hl with | [_, _, _, _], _ => rfl
  have C55 : Cal K mg "_law_is" pIs (He.fAd K ("_law_is", none)) d55 := ⟨m55, F55.kp, b55⟩
  obtain ⟨d56, D56⟩ := cd.def_ 25 (d := dd 56 "_law_count") rfl
  have F56 : Fun K "_law_count" "_law_count" (top 56) (He.fAd K ("_law_count", none)) d56 := He5.fun_of D56
  have m56 := glo_f X G (cd.fact 25 (f := .glo "_law_count") rfl)
  have b56 : Binds K d56 ["_law_thing"] [] := F56.binds fun _ _ _ _ _ _ us hl => match us, hl with | [_], _ => rfl
  have C56 : Cal K mg "_law_count" ["_law_thing"] (He.fAd K ("_law_count", none)) d56 := ⟨m56, F56.kp, b56⟩
  obtain ⟨d57, D57⟩ := cd.def_ 26 (d := dd 57 "_law_at") rfl
  have F57 : Fun K "_law_at" "_law_at" (top 57) (He.fAd K ("_law_at", none)) d57 := He5.fun_of D57
  have m57 := glo_f X G (cd.fact 26 (f := .glo "_law_at") rfl)
  have b57 : Binds K d57 ["_law_thing", "_law_left"] [] := F57.binds fun _ _ _ _ _ _ us hl => match us, hl with | [_, _], _ => rfl
  have C57 : Cal K mg "_law_at" ["_law_thing", "_law_left"] (He.fAd K ("_law_at", none)) d57 := ⟨m57, F57.kp, b57⟩
  obtain ⟨d58, D58⟩ := cd.def_ 27 (d := dd 58 "_law_replaced") rfl
  have F58 : Fun K "_law_replaced" "_law_replaced" (top 58) (He.fAd K ("_law_replaced", none)) d58 := He5.fun_of D58
  have m58 := glo_f X G (cd.fact 27 (f := .glo "_law_replaced") rfl)
  have b58 : Binds K d58 pRp [] := F58.binds fun _ _ _ _ _ _ us hl => match us, hl with | [_, _, _], _ => rfl
  have C58 : Cal K mg "_law_replaced" pRp (He.fAd K ("_law_replaced", none)) d58 := ⟨m58, F58.kp, b58⟩
  obtain ⟨d59, D59⟩ := cd.def_ 28 (d := dd 59 "_law_by") rfl
  have F59 : Fun K "_law_by" "_law_by" (top 59) (He.fAd K ("_law_by", none)) d59 := He5.fun_of D59
  have m59 := glo_f X G (cd.fact 28 (f := .glo "_law_by") rfl)
  have b59 : Binds K d59 pBy [] := F59.binds fun _ _ _ _ _ _ us hl => match us, hl with | [_, _, _, _], _ => rfl
  have C59 : Cal K mg "_law_by" pBy (He.fAd K ("_law_by", none)) d59 := ⟨m59, F59.kp, b59⟩
  obtain ⟨d60, D60⟩ := cd.def_ 29 (d := dd 60 "_law_signs") rfl
  have F60 : Fun K "_law_signs" "_law_signs" (top 60) (He.fAd K ("_law_signs", none)) d60 := He5.fun_of D60
  have m60 := glo_f X G (cd.fact 29 (f := .glo "_law_signs") rfl)
  have b60 : Binds K d60 ["_law_thing"] [] := F60.binds fun _ _ _ _ _ _ us hl => match us, hl with | [_], _ => rfl
  have C60 : Cal K mg "_law_signs" ["_law_thing"] (He.fAd K ("_law_signs", none)) d60 := ⟨m60, F60.kp, b60⟩
  obtain ⟨d61, D61⟩ := cd.def_ 30 (d := dd 61 "_law_right") rfl
  have F61 : Fun K "_law_right" "_law_right" (top 61) (He.fAd K ("_law_right", none)) d61 := He5.fun_of D61
  have m61 := glo_f X G (cd.fact 30 (f := .glo "_law_right") rfl)
  have b61 : Binds K d61 pRt [] := F61.binds fun _ _ _ _ _ _ us hl => match us, hl with | [_, _, _, _, _], _ => rfl
  have C61 : Cal K mg "_law_right" pRt (He.fAd K ("_law_right", none)) d61 := ⟨m61, F61.kp, b61⟩
  obtain ⟨d62, D62⟩ := cd.def_ 31 (d := dd 62 "_law_great") rfl
  have F62 : Fun K "_law_great" "_law_great" (top 62) (He.fAd K ("_law_great", none)) d62 := He5.fun_of D62
  have m62 := glo_f X G (cd.fact 31 (f := .glo "_law_great") rfl)
  have b62 : Binds K d62 pGt [] := F62.binds fun _ _ _ _ _ _ us hl => match us, hl with | [_, _], _ => rfl
  have C62 : Cal K mg "_law_great" pGt (He.fAd K ("_law_great", none)) d62 := ⟨m62, F62.kp, b62⟩
  obtain ⟨d63, D63⟩ := cd.def_ 32 (d := dd 63 "law") rfl
  have F63 : Fun K "law" "law" (top 63) (He.fAd K ("law", none)) d63 := He5.fun_of D63
  have m63 := glo_f X G (cd.fact 32 (f := .glo "law") rfl)
  have b63 : Binds K d63 ["_law_script"] [] := F63.binds fun _ _ _ _ _ _ us hl => match us, hl with | [_], _ => rfl
  have C63 : Cal K mg "law" ["_law_script"] (He.fAd K ("law", none)) d63 := ⟨m63, F63.kp, b63⟩
  obtain ⟨e0, E0⟩ := cd.def_ 33 (d := dm 0 "__init__" "Ground.__init__") rfl
  have M0 : Fun K "__init__" "Ground.__init__" (GN.met 0) (He.fAd K ("Ground", some "__init__")) e0 := He5.fun_of E0
  have B0 : Binds K e0 ["self", "kinds", "works"] [] := M0.binds fun _ _ _ _ _ _ us hl => match us, hl with | [_, _, _], _ => rfl
  obtain ⟨e1, E1⟩ := cd.def_ 34 (d := dm 1 "_add_kind" "Ground._add_kind") rfl
  have M1 : Fun K "_add_kind" "Ground._add_kind" (GN.met 1) (He.fAd K ("Ground", some "_add_kind")) e1 := He5.fun_of E1
  have B1 : Binds K e1 ["self", "told"] [] := M1.binds fun _ _ _ _ _ _ us hl => match us, hl with | [_, _], _ => rfl
  have Me1 : Meth K (He.ga K "Ground") "_add_kind" (He.fAd K ("Ground", some "_add_kind")) := He.meth_ok (cd.fact 67 (f := .meth "Ground" "_add_kind") rfl)
  obtain ⟨e2, E2⟩ := cd.def_ 35 (d := dm 2 "_add_maker" "Ground._add_maker") rfl
  have M2 : Fun K "_add_maker" "Ground._add_maker" (GN.met 2) (He.fAd K ("Ground", some "_add_maker")) e2 := He5.fun_of E2
  have B2 : Binds K e2 ["self", "kind", "told"] [] := M2.binds fun _ _ _ _ _ _ us hl => match us, hl with | [_, _, _], _ => rfl
  have Me2 : Meth K (He.ga K "Ground") "_add_maker" (He.fAd K ("Ground", some "_add_maker")) := He.meth_ok (cd.fact 68 (f := .meth "Ground" "_add_maker") rfl)
  obtain ⟨e3, E3⟩ := cd.def_ 36 (d := dm 3 "_add_work" "Ground._add_work") rfl
  have M3 : Fun K "_add_work" "Ground._add_work" (GN.met 3) (He.fAd K ("Ground", some "_add_work")) e3 := He5.fun_of E3
  have B3 : Binds K e3 ["self", "told"] [] := M3.binds fun _ _ _ _ _ _ us hl => match us, hl with | [_, _], _ => rfl
  have Me3 : Meth K (He.ga K "Ground") "_add_work" (He.fAd K ("Ground", some "_add_work")) := He.meth_ok (cd.fact 69 (f := .meth "Ground" "_add_work") rfl)
  obtain ⟨e4, E4⟩ := cd.def_ 37 (d := dm 4 "_makers_falling" "Ground._makers_falling") rfl
  have M4 : Fun K "_makers_falling" "Ground._makers_falling" (GN.met 4) (He.fAd K ("Ground", some "_makers_falling")) e4 := He5.fun_of E4
  have B4 : Binds K e4 ["self", "takes", "at", "rights"] [] := M4.binds fun _ _ _ _ _ _ us hl => match us, hl with | [_, _, _, _], _ => rfl
  have Me4 : Meth K (He.ga K "Ground") "_makers_falling" (He.fAd K ("Ground", some "_makers_falling")) := He.meth_ok (cd.fact 70 (f := .meth "Ground" "_makers_falling") rfl)
  obtain ⟨e5, E5⟩ := cd.def_ 38 (d := dm 5 "_need_new" "Ground._need_new") rfl
  have M5 : Fun K "_need_new" "Ground._need_new" (GN.met 5) (He.fAd K ("Ground", some "_need_new")) e5 := He5.fun_of E5
  have B5 : Binds K e5 ["self", "name"] [] := M5.binds fun _ _ _ _ _ _ us hl => match us, hl with | [_, _], _ => rfl
  have Me5 : Meth K (He.ga K "Ground") "_need_new" (He.fAd K ("Ground", some "_need_new")) := He.meth_ok (cd.fact 71 (f := .meth "Ground" "_need_new") rfl)
  obtain ⟨e10, E10⟩ := cd.def_ 39 (d := dm 10 "takes_and_gives" "Ground.takes_and_gives") rfl
  have M10 : Fun K "takes_and_gives" "Ground.takes_and_gives" (GN.met 10) (He.fAd K ("Ground", some "takes_and_gives")) e10 := He5.fun_of E10
  have B10 : Binds K e10 ["self", "thing"] [] := M10.binds fun _ _ _ _ _ _ us hl => match us, hl with | [_, _], _ => rfl
  have Me10 : Meth K (He.ga K "Ground") "takes_and_gives" (He.fAd K ("Ground", some "takes_and_gives")) := He.meth_ok (cd.fact 72 (f := .meth "Ground" "takes_and_gives") rfl)
  obtain ⟨e12, E12⟩ := cd.def_ 40 (d := dm 12 "is_kind" "Ground.is_kind") rfl
  have M12 : Fun K "is_kind" "Ground.is_kind" (GN.met 12) (He.fAd K ("Ground", some "is_kind")) e12 := He5.fun_of E12
  have B12 : Binds K e12 ["self", "thing"] [] := M12.binds fun _ _ _ _ _ _ us hl => match us, hl with | [_, _], _ => rfl
  have Me12 : Meth K (He.ga K "Ground") "is_kind" (He.fAd K ("Ground", some "is_kind")) := He.meth_ok (cd.fact 73 (f := .meth "Ground" "is_kind") rfl)
  obtain ⟨e14, E14⟩ := cd.def_ 41 (d := dm 14 "is_work" "Ground.is_work") rfl
  have M14 : Fun K "is_work" "Ground.is_work" (GN.met 14) (He.fAd K ("Ground", some "is_work")) e14 := He5.fun_of E14
  have B14 : Binds K e14 ["self", "thing"] [] := M14.binds fun _ _ _ _ _ _ us hl => match us, hl with | [_, _], _ => rfl
  have Me14 : Meth K (He.ga K "Ground") "is_work" (He.fAd K ("Ground", some "is_work")) := He.meth_ok (cd.fact 74 (f := .meth "Ground" "is_work") rfl)
  obtain ⟨e15, E15⟩ := cd.def_ 42 (d := dm 15 "is_open" "Ground.is_open") rfl
  have M15 : Fun K "is_open" "Ground.is_open" (GN.met 15) (He.fAd K ("Ground", some "is_open")) e15 := He5.fun_of E15
  have B15 : Binds K e15 ["self", "thing"] [] := M15.binds fun _ _ _ _ _ _ us hl => match us, hl with | [_, _], _ => rfl
  have Me15 : Meth K (He.ga K "Ground") "is_open" (He.fAd K ("Ground", some "is_open")) := He.meth_ok (cd.fact 75 (f := .meth "Ground" "is_open") rfl)
  obtain ⟨x1, x2⟩ := He.ba (show (He.tupB K "WORDS" wordsD && (He.tupB K "BINDS" bindsD && (He.valsB K (He.ga K "LENGTHS") lenL && (decide (t2 K ≠ t1 K) && (decide (t3 K ≠ t1 K) && (decide (t3 K ≠ t2 K) && decide (t4 K ∉ [t1 K, t2 K, t3 K]))))))) = true from c.more)
  obtain ⟨x3, x4⟩ := He.ba x2
  obtain ⟨x5, x6⟩ := He.ba x4
  obtain ⟨x7, x8⟩ := He.ba x6
  obtain ⟨x9, x10⟩ := He.ba x8
  obtain ⟨x11, x12⟩ := He.ba x10
  have n21 := of_decide_eq_true x7
  have n31 := of_decide_eq_true x9
  have n32 := of_decide_eq_true x11
  have n4 := of_decide_eq_true x12
  have XN : GN.TxtN K mg (He.ga K "WORDS") := ⟨(He.free_ok X G (cd.fact 37 (f := .free "isinstance") rfl)), (He.free_ok X G (cd.fact 38 (f := .free "str") rfl)), (He.free_ok X G (cd.fact 42 (f := .free "len") rfl)), (He.free_ok X G (cd.fact 43 (f := .free "all") rfl)), He.str_ok X G (cd.fact 60 (f := .str "LETTERS" GN.letters) rfl), (He.glo_ok X G (cd.fact 33 (f := .glo "WORDS") rfl)), fun H => He.tupB_ok x1 H, (He.int_ok X G (cd.fact 55 (f := .int "MOST_LETTERS" 8) rfl))⟩
  have XG : GN.TxtG K mg (He.ga K "Ground") := ⟨He.cls_ok (cd.fact 61 (f := .cls "Ground") rfl), (He.noat_ok (cd.fact 62 (f := .noat "Ground" "_makers") rfl)), (He.noat_ok (cd.fact 63 (f := .noat "Ground" "_takes") rfl)), (He.noat_ok (cd.fact 64 (f := .noat "Ground" "_gives") rfl)), (He.noat_ok (cd.fact 65 (f := .noat "Ground" "_falls_at") rfl)), (He.noat_ok (cd.fact 66 (f := .noat "Ground" "_rights") rfl)), (He.free_ok X G (cd.fact 37 (f := .free "isinstance") rfl)), (He.free_ok X G (cd.fact 38 (f := .free "str") rfl)), (He.free_ok X G (cd.fact 47 (f := .free "list") rfl)), (He.free_ok X G (cd.fact 42 (f := .free "len") rfl))⟩
  have XC : GN.TxtC K mg := ⟨(He.free_ok X G (cd.fact 39 (f := .free "tuple") rfl)), (He.int_ok X G (cd.fact 56 (f := .int "MOST_TAKEN" 4) rfl)), (He.int_ok X G (cd.fact 57 (f := .int "MOST_MAKERS" 6) rfl)), (He.int_ok X G (cd.fact 58 (f := .int "MOST_KINDS" 8) rfl)), (He.int_ok X G (cd.fact 59 (f := .int "MOST_WORKS" 16) rfl))⟩
  have XL : KD.TxtL mg := ⟨(He.free_ok X G (cd.fact 39 (f := .free "tuple") rfl)), (He.free_ok X G (cd.fact 42 (f := .free "len") rfl)), (He.free_ok X G (cd.fact 50 (f := .free "range") rfl)), (He.free_ok X G (cd.fact 37 (f := .free "isinstance") rfl)), (He.free_ok X G (cd.fact 47 (f := .free "list") rfl)), (He.free_ok X G (cd.fact 51 (f := .free "max") rfl)), (He.free_ok X G (cd.fact 52 (f := .free "min") rfl)), (He.free_ok X G (cd.fact 53 (f := .free "sorted") rfl)), (He.free_ok X G (cd.fact 54 (f := .free "set") rfl))⟩
  have XQ : TxQ mg := ⟨(He.free_ok X G (cd.fact 37 (f := .free "isinstance") rfl)), (He.free_ok X G (cd.fact 38 (f := .free "str") rfl)), (He.free_ok X G (cd.fact 39 (f := .free "tuple") rfl)), (He.free_ok X G (cd.fact 40 (f := .free "int") rfl)), (He.free_ok X G (cd.fact 41 (f := .free "bool") rfl)), (He.free_ok X G (cd.fact 42 (f := .free "len") rfl)), (He.free_ok X G (cd.fact 43 (f := .free "all") rfl)), (He.free_ok X G (cd.fact 44 (f := .free "sum") rfl)), (He.free_ok X G (cd.fact 45 (f := .free "dict") rfl)), (He.free_ok X G (cd.fact 46 (f := .free "enumerate") rfl)), (He.free_ok X G (cd.fact 47 (f := .free "list") rfl)), (He.free_ok X G (cd.fact 48 (f := .free "zip") rfl))⟩
  have mk : Mk K (He.ga K "Ground") (He.fAd K ("Ground", some "__init__")) := He.mkr_ok (cd.fact 76 (f := .mkr "Ground") rfl)
  have mG : mg "Ground" = some (.ref (He.ga K "Ground")) := (He.glo_ok X G (cd.fact 36 (f := .glo "Ground") rfl))
  have dl : He.dicW K (He.ga K "LENGTHS") = some (He.keysIn w.params (lenL.map (·.1))) := by
    have e : tsL.map (fun t => He.dicW K (t.1 K)) = tsL.map fun t => some (He.keysIn w.params t.2) := congrArg (fun z : He.AlT => z.2) c.t
    exact (List.cons.inj e).1
  obtain ⟨es, nn, Lg⟩ := lg_of dl x5 (He.glo_ok X G (cd.fact 35 (f := .glo "LENGTHS") rfl)) (He.glo_ok X G (cd.fact 34 (f := .glo "BINDS") rfl)) (fun H => He.tupB_ok x3 H)
  have ef : f = He.fAd K ("law", none) := by
    have := hfa.symm.trans m63
    injection this with this
    injection this with this
  subst ef
  refine ⟨d63, tfL.map (He.cT K), spLw K (t1 K) (t2 K) (t3 K) (t4 K), fun p hp => ?_, fun p hp => ?_, fun p hp => ?_, fun s u => FunD.bindsA (ps := ["_law_script"]) D63 (fun _ _ _ _ _ _ us hl => match us, hl with | [_], _ => rfl) s [u] rfl, fun H a ns hl _ hT hS => ?_, fun base X2 G2 hTB => ?_⟩
  · obtain ⟨q, hq, rfl⟩ := List.mem_map.mp hp
    exact c.empty q hq
  · obtain ⟨q, hq, rfl⟩ := List.mem_map.mp hp
    exact c.out q hq
  · obtain ⟨q, hq, rfl⟩ := List.mem_map.mp hp
    exact PySem.W.codeHd_of_K X (c.hd q hq)
  · have tg : ∀ q ∈ tfL, TabG H (pO K q) := fun q hq => ⟨#[], hT _ (List.mem_map.mpr ⟨q, hq, rfl⟩), trivial⟩
    exact ⟨a, ns, rfl, hS, hl, tg _ (by simp [tfL]), tg _ (by simp [tfL]), tg _ (by simp [tfL]), tg _ (by simp [tfL]), n21, n31, n32, n4, fun _ => rfl⟩
  · have tb : ∀ q ∈ tfL, GxR.TabB base mg (He.cT K q).1 (pO K q) := fun q hq => by
      have t := hTB _ (List.mem_map.mpr ⟨q, hq, rfl⟩)
      exact ⟨t.code, t.bm, t.gP⟩
    have b1 := tb ("is_name", none) (by simp [tfL])
    have b2 := tb ("Ground", some "_add_kind") (by simp [tfL])
    have b3 := tb ("Ground", some "_add_work") (by simp [tfL])
    have b4 := tb ("_is_within", none) (by simp [tfL])
    have T5 := funT_of F5
    have T21 := funT_of F21
    have TM1 := funT_of M1
    have TM3 := funT_of M3
    have Df : GN.Defs (PySem.Challenge.rw_goalsmith_k31_sayings_told).prog w K mg base (t1 K) (He.ga K "WORDS") :=
      ⟨_, d39, _, d5, _, d40, _, d41, GN.ok_need F39, b39, m39, F39.kp, GN.ok_isName T5 XN b1, b5, m5, F5.kp, GN.ok_isList F40 XG, b40, m40, F40.kp, GN.ok_isRow F41 XG XC.tup, b41, m41, F41.kp⟩
    have hK := GN.ok_isKind (P := (PySem.Challenge.rw_goalsmith_k31_sayings_told).prog) (w := w) (base := base) M12 XG
    have Mt : GN.Mets (PySem.Challenge.rw_goalsmith_k31_sayings_told).prog w K mg base (He.ga K "Ground") (t1 K) (He.ga K "WORDS") :=
      ⟨_, e12, _, e15, _, e5, Me12, hK, B12, Me15, GN.ok_isOpen M15 XG Me12 Me14 hK (GN.ok_isWork M14 XG) B12 B14, B15, Me5, GN.ok_needNew M5 XG Df, B5⟩
    have hI := GN.ok_init (T2 := t2 K) (T3 := t3 K) M0 XG XC Df Me1 (GN.ok_addKind TM1 XG XC (He.free_ok X G (cd.fact 49 (f := .free "any") rfl)) b2 Df Mt Me2 (GN.ok_addMaker M2 XG XC Df Mt) B2) B1 Me3 (GN.ok_addWork0 TM3 XG XC (He.free_ok X G (cd.fact 43 (f := .free "all") rfl)) (He.free_ok X G (cd.fact 48 (f := .free "zip") rfl)) b3 Df Mt Me4 (GN.ok_mf0 M4 XG Df) B4) B3
    have Ms : MsQ (PySem.Challenge.rw_goalsmith_k31_sayings_told).prog w K mg base (He.ga K "Ground") := ⟨_, e12, _, e10, Me12, hK, B12, Me10, ok_tg M10 XQ XG 0, B10⟩
    have Nm : NmQ (PySem.Challenge.rw_goalsmith_k31_sayings_told).prog w K mg base (t1 K) (He.ga K "WORDS") := ⟨_, d5, GN.ok_isNameD T5 XN b1, m5, F5.kp, b5⟩
    have hW := ok_wi (P := (PySem.Challenge.rw_goalsmith_k31_sayings_told).prog) (Tb := t1 K) T21 b21 m21 b4 Lg F9 b9 m9 F10 b10 m10 Nm F6 b6 m6 XQ XG Ms
    exact ok_law F63 XQ C43 (KD.ok_seed F43 XL) C44 (KD.ok_state F44 XL) C50 (KD.ok_ground F50 F45 b45 m45 F46 b46 m46 F47 b47 m47 F48 b48 m48 XL) C49 (KD.ok_makes F49) C45 (KD.ok_draw F45) mk mG B0 hI
      C62 (ok_great F62 XQ XL C45 (KD.ok_draw F45)) C58 (fun hb => ok_rp hb F58 b58 m58 XQ) C59 (ok_by F59 XQ C45 (KD.ok_draw F45) C57 (ok_at F57 b57 m57 XQ) C56 (ok_ct F56 b56 m56 XQ)) C56 (ok_ct F56 b56 m56 XQ) C52 (KD.ok_say F52 b52 m52 F51 b51 m51 F45 b45 m45 XL)
      C61 (ok_rt F61 XQ C19 (ok_sy F19 T21 b21 m21 hW) C20 (ok_bo F20 T21 b21 m21 hW XG Ms) C55 (ok_is F55 b55 m55 F53 b53 m53 F54 b54 m54 XQ) C13 (ok_sg F13 b13 m13 F12 b12 m12) C60 (ok_ls F60 b60 m60 XQ))
end Q3

/-! LH3: what is said of the head, by what stands behind it. -/
namespace Q3
open PySem PySem.Spec PyProof.Rows L2 GenW GxR NdefX GX
/-- without the tables -/
def cut (K : PySem.W.Frag) : PySem.W.Frag := K.filter fun p => !(tfL.any fun q => p.1 == (He.cT K q).2)
theorem look_filter {f : Addr → Bool} {a : Addr} {o : Obj} : ∀ {K : PySem.W.Frag}, (K.filter fun p => f p.1).lookup a = some o → K.lookup a = some o
  | [], h => by cases h
  | p :: K, h => by
    obtain ⟨b, x⟩ := p
    rw [List.filter_cons] at h
    rw [List.lookup_cons]
    by_cases hf : f b = true
    · rw [if_pos hf, List.lookup_cons] at h
      cases e : a == b with
      | true => rw [e] at h; exact h
      | false => rw [e] at h; exact look_filter h
    · rw [if_neg hf] at h
      cases e : a == b with
      | true =>
        have ab : a = b := by simpa using e
        subst ab
        exfalso
        have no : ∀ (L : PySem.W.Frag), (L.filter fun p => f p.1).lookup a = none := by
          intro L
          induction L with
          | nil => rfl
          | cons p L ih =>
            obtain ⟨c, y⟩ := p
            rw [List.filter_cons]
            by_cases hc : f c = true
            · rw [if_pos hc, List.lookup_cons]
              cases e2 : a == c with
              | true =>
                have ac : a = c := by simpa using e2
                subst ac
                exact absurd hc hf
              | false => exact ih
            · rw [if_neg hc]
              exact ih
        rw [no] at h
        cases h
      | false => exact look_filter h
theorem cut_in {K : PySem.W.Frag} {h : Heap} (X : K.In h) : (cut K).In h := fun a o e => X a o (look_filter (f := fun b => !(tfL.any fun q => b == (He.cT K q).2)) e)
theorem says_of {K : PySem.W.Frag} {w : World} {h : Heap} (X : K.In h) (a : He.obsT faL fnL tsL (cut K) = He.valT fnL tsL w) (b : exL (cut K) = true) (c : (tfL.all fun p => PySem.W.codeHdIn (cut K) (He.cT (cut K) p).1 (He.cT (cut K) p).2) = true)
    (d : (tfL.all fun p => ((cut K).lookup (He.cT (cut K) p).2).isNone) = true) (e : tfL.map (fun p => K.lookup (He.cT (cut K) p).2) = tfL.map fun _ => some { cls := .none, data := .fields #[] }) : He.SaysX faL fnL tsL tfL exL w h (cut K) where
  t := a
  more := b
  hd := fun p hp => List.all_eq_true.mp c p hp
  out := fun p hp => by
    have := List.all_eq_true.mp d p hp
    simpa using this
  empty := fun p hp => X _ _ (by
    have := List.map_inj_left.mp e p hp
    exact this)
end Q3

open PySem PySem.W PySem.Calls PyProof.Rows
set_option maxRecDepth 100000 in
set_option maxHeartbeats 0 in
theorem PySem.Challenge.cw_goalsmith_k31_sayings_told_holds : PySem.Challenge.rw_goalsmith_k31_sayings_told.Holds := by
  w_on; o_law; x_head; (case hw => w_witness2)
  k_fill
  refine LamX.walk_ofTsE (l := PySem.Challenge.rw_goalsmith_k31_sayings_told) (n := 63) (k := 220) (x := "_law_script") (CX := fun _ => L2.CX0) rfl (by decide) rfl ⟨rfl, by decide, by decide⟩ ?F (fun _ _ _ _ _ z => z)
  case F =>
    intro w mg fa h Y G hmg
    have KX := PySem.W.kIn_of Y
    refine ⟨_, Q3.cut_in KX, Q3.facts (Q3.cut_in KX) G hmg (Q3.says_of KX ?a ?b ?c ?d ?e)⟩
    case b => kernel_rfl
    case c => kernel_rfl
    case d => kernel_rfl
    case e => kernel_rfl
    case a => kernel_rfl
#print axioms PySem.Challenge.cw_goalsmith_k31_sayings_told_holds

