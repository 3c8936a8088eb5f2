import PyProof.Rows.All
import HandS.ForMost
import HandS.Exc
import HandS.ExcOwn
import HandS.TryOnly
import HandS.WordsExc
import HandS.IsInst
import HandS.Star
import KE.KeyNested
import KE.KDictKeyed
import PyProof.ReprReads
import HandS.TupAny
import HandS.Flow
import HandS.Deep
import HandS.Wide
import HandS.WideBits
import HandS.TupLe
import HandS.SetKeys
import HandS.Strs
import KE.SortData
import KE.DataCmp
import HandS.Iter
import HandS.Dict
import HandS.WordsDict
import PyProof.ReprRoads
import PyProof.StrLawsRepr
import HandS.Comp
import PyProof.ExcBaseAll.ValueError
import HandS.HeadEnd
import PySem.Challenge.RW_broodcounts_k02_trees_of_a_size
import Wide.All
import OpenK.AllK
import Wide.FinOn
import KE.KStateDown
import HandS.Defaults
import HandS.Head0
import HandS.Head1
import HandS.Head2
import HandS.HeadHook1
import HandS.HeadHook2
set_option Elab.async false
set_option linter.all false
set_option maxRecDepth 100000
set_option maxHeartbeats 4100000
/-! A reckoner of closed runs: its values, its store, its answers, and what stands for what. -/
namespace Dz
open PySem L2

inductive EV where
  | non | bl (b : Bool) | int (i : Int) | str (s : EV) | nil | cons (x xs : EV) | tup (xs : EV) | lst (xs : EV) | ref (a : Nat) | ch (c : Nat) | cst (n : Nat)
  deriving Inhabited, DecidableEq
inductive LL where
  | nil | un (r : LL) | as (x : EV) (r : LL)
inductive EO where
  | lst (xs : EV) | dct (kvs : EV) | frz (kvs : EV) | ins (c : Nat) (fs : EV)
inductive Tr where
  | leaf | node (v : Option EO) (l r : Tr)
inductive RE where
  | ok (v : EV) (h : Tr) (m : Nat) | exc (c : Nat) (p : EV) (h : Tr) (m : Nat) | bad
inductive RS where
  | nx (l : LL) (h : Tr) (m : Nat) | ret (v : EV) (h : Tr) (m : Nat) | brk (l : LL) (h : Tr) (m : Nat) | cnt (l : LL) (h : Tr) (m : Nat) | exc (c : Nat) (p : EV) (l : LL) (h : Tr) (m : Nat) | bad
abbrev CE := LL → Tr → Nat → RE
abbrev CS := LL → Tr → Nat → RS

/-! ### what stands for what -/
def codes : EV → Option (List Nat)
  | .nil => some []
  | .cons (.ch c) r => if c < 1114112 then (codes r).map (c :: ·) else none
  | _ => none
theorem codes_cons {c : Nat} {r : EV} {l : List Nat} (h : codes (.cons (.ch c) r) = some l) : ∃ k, l = c :: k ∧ codes r = some k ∧ c < 1114112 := by
  have h' : (if c < 1114112 then (codes r).map (c :: ·) else none) = some l := h
  split at h'
  · rename_i hc
    cases q : codes r with
    | none => rw [q] at h'; cases h'
    | some k => rw [q] at h'; cases h'; exact ⟨k, rfl, rfl, hc⟩
  · cases h'
/-- a value as data; lists are told by .lst -/
def Dt : EV → Option PyData × Option (List PyData)
  | .non => (some .none, none)
  | .bl b => (some (.bool b), none)
  | .int i => (some (.int i), none)
  | .str s => ((codes s).map fun l => .str ⟨l.toArray⟩, none)
  | .nil => (none, some [])
  | .cons x xs => (none, match (Dt x).1, (Dt xs).2 with | some d, some ds => some (d :: ds) | _, _ => none)
  | .tup xs => ((Dt xs).2.map .tuple, none)
  | .lst xs => ((Dt xs).2.map .list, none)
  | .ref _ => (none, none)
  | .ch _ => (none, none)
  | .cst _ => (none, none)
/-- a text's signs; .lst v: the text that shows v -/
def cdx : EV → Option (List Nat)
  | .lst v => (Dt v).1.map fun d => d.shown.cps.toList
  | s => codes s
/-- what is fixed through a run: the constants' values, the classes' addresses, the fields' names -/
structure Fix where
  w : World
  cv : Nat → V
  ca : Nat → Addr
  fn : Nat → Str
/-- where the objects of the store stand -/
abbrev Pl := Nat → Addr
/-- an address that is none of the store -/
def Off (ρ : Pl) (m : Nat) (a : Addr) : Prop := ∀ i, i < m → ρ i ≠ a
section
variable (X : Fix)
def RR (ρ : Pl) (m : Nat) (H : Hp) : EV → (V → Prop) × (List V → Prop)
  | .non => (fun v => v = .non, fun _ => False)
  | .bl b => (fun v => v = .bl b, fun _ => False)
  | .int i => (fun v => v = .int i, fun _ => False)
  | .str s => (fun v => ∃ l, cdx s = some l ∧ v = .str ⟨l.toArray⟩, fun _ => False)
  | .nil => (fun _ => False, fun vs => vs = [])
  | .cons x xs => (fun _ => False, fun vs => ∃ v r, vs = v :: r ∧ (RR ρ m H x).1 v ∧ (RR ρ m H xs).2 r)
  | .tup xs => (fun v => ∃ a vs, v = .ref a ∧ H a = some (.tup vs) ∧ Off ρ m a ∧ (RR ρ m H xs).2 vs, fun _ => False)
  | .lst _ => (fun _ => False, fun _ => False)
  | .ref a => (fun v => a < m ∧ v = .ref (ρ a), fun _ => False)
  | .ch _ => (fun _ => False, fun _ => False)
  | .cst n => (fun v => v = X.cv n, fun _ => False)
abbrev R (ρ : Pl) (m : Nat) (H : Hp) (v : EV) (x : V) : Prop := (RR X ρ m H v).1 x
abbrev RL (ρ : Pl) (m : Nat) (H : Hp) (v : EV) (xs : List V) : Prop := (RR X ρ m H v).2 xs
noncomputable def tget (t : Tr) : Nat → Option EO := Tr.rec (motive := fun _ => Nat → Option EO) (fun _ => none)
  (fun v _ _ il ir n => Nat.rec (motive := fun _ => Option EO) v (fun k _ => Bool.rec (ir (Nat.div k 2)) (il (Nat.div k 2)) (Nat.beq (Nat.mod k 2) 0)) n) t
/-- fields: (the field's number, its value) one behind the other -/
def RF (ρ : Pl) (m : Nat) (H : Hp) : EV → List (Str × V) → Prop
  | .nil, fs => fs = []
  | .cons (.cons (.ch f) v) r, fs => ∃ x t, fs = (X.fn f, x) :: t ∧ R X ρ m H v x ∧ RF ρ m H r t
  | _, _ => False
/-- a key -/
def KyE : EV → Option Key
  | .int i => some (.inl i)
  | .str s => (codes s).map fun l => .inr ⟨l.toArray⟩
  | _ => none
abbrev Ent := Key × V
/-- a dict's entries: pairs of a key and its value, in the order in which they came -/
def RD (ρ : Pl) (m : Nat) (H : Hp) : EV → List Ent → Prop
  | .nil, es => es = []
  | .cons (.cons k v) r, es => ∃ ky y t, es = (ky, y) :: t ∧ KyE k = some ky ∧ R X ρ m H v y ∧ RD ρ m H r t
  | _, _ => False
def RO (ρ : Pl) (m : Nat) (H : Hp) (a : Addr) : EO → Prop
  | .lst xs => ∃ vs, H a = some (.lst vs) ∧ RL X ρ m H xs vs
  | .dct kvs => ∃ es, H a = some (.dK es) ∧ RD X ρ m H kvs es
  | .frz kvs => ∃ o es, H a = some (.frz o (.dK es)) ∧ RD X ρ m H kvs es
  | .ins c fs => ∃ dx vf, H a = some (.ins (X.ca c) dx vf) ∧ RF X ρ m H fs vf
structure S (ρ : Pl) (m : Nat) (h : Tr) (H : Hp) : Prop where
  inj : ∀ i j, i < m → j < m → ρ i = ρ j → i = j
  obj : ∀ i, i < m → ∃ o, tget h i = some o ∧ RO X ρ m H (ρ i) o
end
structure Ext (ρ : Pl) (m : Nat) (H : Hp) (ρ' : Pl) (m' : Nat) (H' : Hp) : Prop where
  le : m ≤ m'
  eq : ∀ i, i < m → ρ' i = ρ i
  new : ∀ i, m ≤ i → i < m' → H (ρ' i) = none
  keep : ∀ a o, H a = some o → Off ρ m a → H' a = some o
  dom : ∀ a, H' a = none → H a = none
  frz : ∀ a o u, H a = some (.frz o u) → H' a = some (.frz o u)
section
variable {X : Fix} {ρ ρ' ρ'' : Pl} {m m' m'' : Nat} {H H' H'' : Hp} {h h' : Tr} {v w : EV} {x y : V} {xs : List V}
theorem S.live (s : S X ρ m h H) {i : Nat} (hi : i < m) : ∃ o, H (ρ i) = some o := by
  obtain ⟨o, _, r⟩ := s.obj i hi
  cases o with
  | lst xs => obtain ⟨vs, q, _⟩ := r; exact ⟨_, q⟩
  | dct kvs => obtain ⟨es, q, _⟩ := r; exact ⟨_, q⟩
  | frz kvs => obtain ⟨o, es, q, _⟩ := r; exact ⟨_, q⟩
  | ins c fs => obtain ⟨dx, vf, q, _⟩ := r; exact ⟨_, q⟩
theorem S.off (s : S X ρ m h H) {p : Addr} (hp : H p = none) : Off ρ m p := fun i hi z => by
  obtain ⟨o, q⟩ := s.live hi
  rw [z, hp] at q; cases q
theorem S.offT (s : S X ρ m h H) {p : Addr} {vs : List V} (hp : H p = some (.tup vs)) : Off ρ m p := fun i hi z => by
  obtain ⟨o, _, r⟩ := s.obj i hi
  cases o with
  | lst xs => obtain ⟨vs, q, _⟩ := r; rw [z, hp] at q; cases q
  | dct kvs => obtain ⟨es, q, _⟩ := r; rw [z, hp] at q; cases q
  | frz kvs => obtain ⟨o, es, q, _⟩ := r; rw [z, hp] at q; cases q
  | ins c fs => obtain ⟨dx, vf, q, _⟩ := r; rw [z, hp] at q; cases q
theorem Ext.refl : Ext ρ m H ρ m H := ⟨Nat.le_refl _, fun _ _ => rfl, fun i a b => absurd (Nat.lt_of_lt_of_le b a) (Nat.lt_irrefl _), fun _ _ e _ => e, fun _ e => e, fun _ _ _ e => e⟩
theorem Ext.off (e : Ext ρ m H ρ' m' H') {a : Addr} {o : HO} (ha : H a = some o) (f : Off ρ m a) : Off ρ' m' a := fun i hi z => by
  by_cases q : i < m
  · exact f i q (by rw [← e.eq i q]; exact z)
  · have := e.new i (by omega) hi
    rw [z, ha] at this; cases this
theorem Ext.trans (e : Ext ρ m H ρ' m' H') (f : Ext ρ' m' H' ρ'' m'' H'') : Ext ρ m H ρ'' m'' H'' := by
  refine ⟨Nat.le_trans e.le f.le, fun i hi => (f.eq i (Nat.lt_of_lt_of_le hi e.le)).trans (e.eq i hi), fun i a b => ?_, fun a o ha hn => f.keep a o (e.keep a o ha hn) (e.off ha hn), fun a z => e.dom a (f.dom a z), fun a o u z => f.frz a o u (e.frz a o u z)⟩
  by_cases q : i < m'
  · rw [f.eq i q]; exact e.new i a q
  · exact e.dom _ (f.new i (by omega) b)
theorem RR.mono (e : Ext ρ m H ρ' m' H') : ∀ v : EV, (∀ x, R X ρ m H v x → R X ρ' m' H' v x) ∧ (∀ xs, RL X ρ m H v xs → RL X ρ' m' H' v xs)
  | .non => ⟨fun _ h => h, fun _ h => h⟩
  | .bl _ => ⟨fun _ h => h, fun _ h => h⟩
  | .int _ => ⟨fun _ h => h, fun _ h => h⟩
  | .str _ => ⟨fun _ h => h, fun _ h => h⟩
  | .nil => ⟨fun _ h => h, fun _ h => h⟩
  | .cons x xs => ⟨fun _ h => h, fun _ h => by
    obtain ⟨v, r, e1, h1, h2⟩ := h
    exact ⟨v, r, e1, (RR.mono e x).1 _ h1, (RR.mono e xs).2 _ h2⟩⟩
  | .tup xs => ⟨fun _ h => by
    obtain ⟨a, vs, e1, h1, h2, h3⟩ := h
    exact ⟨a, vs, e1, e.keep _ _ h1 h2, e.off h1 h2, (RR.mono e xs).2 _ h3⟩, fun _ h => h⟩
  | .lst _ => ⟨fun _ h => h, fun _ h => h⟩
  | .ref a => ⟨fun _ h => by
    obtain ⟨h1, h2⟩ := h
    exact ⟨Nat.lt_of_lt_of_le h1 e.le, by rw [e.eq a h1]; exact h2⟩, fun _ h => h⟩
  | .ch _ => ⟨fun _ h => h, fun _ h => h⟩
  | .cst _ => ⟨fun _ h => h, fun _ h => h⟩
theorem R.mono (e : Ext ρ m H ρ' m' H') (r : R X ρ m H v x) : R X ρ' m' H' v x := (RR.mono e v).1 _ r
theorem RL.mono (e : Ext ρ m H ρ' m' H') (r : RL X ρ m H v xs) : RL X ρ' m' H' v xs := (RR.mono e v).2 _ r
theorem RF.mono (e : Ext ρ m H ρ' m' H') : ∀ (v : EV) (fs : List (Str × V)), RF X ρ m H v fs → RF X ρ' m' H' v fs
  | .nil, fs, h => h
  | .cons (.cons (.ch f) v) r, fs, h => by
    obtain ⟨x, t, e1, h1, h2⟩ := h
    exact ⟨x, t, e1, R.mono e h1, RF.mono e r t h2⟩
theorem RD.mono (e : Ext ρ m H ρ' m' H') : ∀ (v : EV) (es : List Ent), RD X ρ m H v es → RD X ρ' m' H' v es
  | .nil, es, h => h
  | .cons (.cons k v) r, es, h => by
    obtain ⟨ky, y, t, e1, k1, h2, h3⟩ := h
    exact ⟨ky, y, t, e1, k1, R.mono e h2, RD.mono e r t h3⟩
/-- an object's part of the relation, where its own place stays -/
theorem RO.mono (e : Ext ρ m H ρ' m' H') {a : Addr} {o : EO} (q : H' a = H a) (r : RO X ρ m H a o) : RO X ρ' m' H' a o := by
  cases o with
  | lst xs => obtain ⟨vs, q1, r1⟩ := r; exact ⟨vs, q.trans q1, RL.mono e r1⟩
  | dct kvs => obtain ⟨es, q1, r1⟩ := r; exact ⟨es, q.trans q1, RD.mono e _ _ r1⟩
  | frz kvs => obtain ⟨o, es, q1, r1⟩ := r; exact ⟨o, es, q.trans q1, RD.mono e _ _ r1⟩
  | ins c fs => obtain ⟨dx, vf, q1, r1⟩ := r; exact ⟨dx, vf, q.trans q1, RF.mono e _ _ r1⟩
/-- a new object that is none of the store -/
theorem Ext.laid {p : Addr} {o : HO} (hp : H p = none) : Ext ρ m H ρ m (upd H p o) :=
  ⟨Nat.le_refl _, fun _ _ => rfl, fun i a b => absurd (Nat.lt_of_lt_of_le b a) (Nat.lt_irrefl _), fun a u e _ => by rw [upd_ne (ne_of_none e hp)]; exact e, fun a z => by
    by_cases q : a = p
    · rw [q]; exact hp
    · rw [upd_ne q] at z; exact z, fun a w u e => by rw [upd_ne (ne_of_none e hp)]; exact e⟩
theorem S.laid (s : S X ρ m h H) {p : Addr} {o : HO} (hp : H p = none) : S X ρ m h (upd H p o) :=
  ⟨s.inj, fun i hi => by
    obtain ⟨u, e, r⟩ := s.obj i hi
    obtain ⟨w, hw⟩ := s.live hi
    exact ⟨u, e, RO.mono (Ext.laid hp) (by rw [upd_ne (ne_of_none hw hp)]) r⟩⟩
/-- an object off the store that is no tuple changes -/
theorem Ext.offUpd {p : Addr} {o u : HO} (hp : H p = some u) (f : Off ρ m p) {H0 : Hp} (h0 : H0 p = none) {ρ0 : Pl} {m0 : Nat} (e : Ext ρ0 m0 H0 ρ m H) : Ext ρ0 m0 H0 ρ m (upd H p o) :=
  ⟨e.le, e.eq, e.new, fun a w ha hn => by rw [upd_ne (ne_of_none ha h0)]; exact e.keep a w ha hn, fun a z => by
    by_cases q : a = p
    · rw [q]; exact h0
    · rw [upd_ne q] at z; exact e.dom a z, fun a w u ha => by rw [upd_ne (ne_of_none ha h0)]; exact e.frz a w u ha⟩
theorem RR.upd {p : Addr} {o : HO} (hp : ∀ vs, H p ≠ some (.tup vs)) : ∀ v : EV, (∀ x, R X ρ m H v x → R X ρ m (upd H p o) v x) ∧ (∀ xs, RL X ρ m H v xs → RL X ρ m (upd H p o) v xs)
  | .non => ⟨fun _ h => h, fun _ h => h⟩
  | .bl _ => ⟨fun _ h => h, fun _ h => h⟩
  | .int _ => ⟨fun _ h => h, fun _ h => h⟩
  | .str _ => ⟨fun _ h => h, fun _ h => h⟩
  | .nil => ⟨fun _ h => h, fun _ h => h⟩
  | .cons x xs => ⟨fun _ h => h, fun _ h => by
    obtain ⟨v, r, e1, h1, h2⟩ := h
    exact ⟨v, r, e1, (RR.upd hp x).1 _ h1, (RR.upd hp xs).2 _ h2⟩⟩
  | .tup xs => ⟨fun _ h => by
    obtain ⟨a, vs, e1, h1, h2, h3⟩ := h
    exact ⟨a, vs, e1, by rw [upd_ne (fun z => hp vs (by rw [← z]; exact h1))]; exact h1, h2, (RR.upd hp xs).2 _ h3⟩, fun _ h => h⟩
  | .lst _ => ⟨fun _ h => h, fun _ h => h⟩
  | .ref a => ⟨fun _ h => h, fun _ h => h⟩
  | .ch _ => ⟨fun _ h => h, fun _ h => h⟩
  | .cst _ => ⟨fun _ h => h, fun _ h => h⟩
theorem RF.upd {p : Addr} {o : HO} (hp : ∀ vs, H p ≠ some (.tup vs)) : ∀ (v : EV) (fs : List (Str × V)), RF X ρ m H v fs → RF X ρ m (upd H p o) v fs
  | .nil, fs, h => h
  | .cons (.cons (.ch f) v) r, fs, h => by
    obtain ⟨x, t, e1, h1, h2⟩ := h
    exact ⟨x, t, e1, (RR.upd hp v).1 _ h1, RF.upd hp r t h2⟩
theorem RD.upd {p : Addr} {o : HO} (hp : ∀ vs, H p ≠ some (.tup vs)) : ∀ (v : EV) (es : List Ent), RD X ρ m H v es → RD X ρ m (upd H p o) v es
  | .nil, es, h => h
  | .cons (.cons k v) r, es, h => by
    obtain ⟨ky, y, t, e1, k1, h2, h3⟩ := h
    exact ⟨ky, y, t, e1, k1, (RR.upd hp v).1 _ h2, RD.upd hp r t h3⟩
theorem RO.upd {p a : Addr} {o : HO} {u : EO} (hp : ∀ vs, H p ≠ some (.tup vs)) (ha : a ≠ p) (r : RO X ρ m H a u) : RO X ρ m (upd H p o) a u := by
  cases u with
  | lst xs => obtain ⟨vs, q1, r1⟩ := r; exact ⟨vs, (upd_ne ha).trans q1, (RR.upd hp _).2 _ r1⟩
  | dct kvs => obtain ⟨es, q1, r1⟩ := r; exact ⟨es, (upd_ne ha).trans q1, RD.upd hp _ _ r1⟩
  | frz kvs => obtain ⟨o, es, q1, r1⟩ := r; exact ⟨o, es, (upd_ne ha).trans q1, RD.upd hp _ _ r1⟩
  | ins c fs => obtain ⟨dx, vf, q1, r1⟩ := r; exact ⟨dx, vf, (upd_ne ha).trans q1, RF.upd hp _ _ r1⟩
theorem S.upd (s : S X ρ m h H) {p : Addr} {o : HO} (hp : ∀ vs, H p ≠ some (.tup vs)) (f : Off ρ m p) : S X ρ m h (upd H p o) :=
  ⟨s.inj, fun i hi => by
    obtain ⟨u, e, r⟩ := s.obj i hi
    exact ⟨u, e, RO.upd hp (f i hi) r⟩⟩
end

/-! ### slots -/
def LLs : LL → List (Option EV)
  | .nil => []
  | .un r => none :: LLs r
  | .as x r => some x :: LLs r
section
variable (X : Fix)
structure LR (ρ : Pl) (m : Nat) (H : Hp) (l : LL) (σ : L2.St) : Prop where
  len : σ.length = (LLs l).length
  get : ∀ (i : Nat) x, (LLs l)[i]? = some (some x) → ∃ v, σ[i]? = some (some v) ∧ R X ρ m H x v
end
section
variable {X : Fix}
theorem LR.mono {ρ ρ' m m' H H' l σ} (e : Ext ρ m H ρ' m' H') (h : LR X ρ m H l σ) : LR X ρ' m' H' l σ :=
  ⟨h.len, fun i x q => let ⟨v, a, b⟩ := h.get i x q; ⟨v, a, b.mono e⟩⟩
theorem LR.upd {ρ m H l σ} {p : Addr} {o : HO} (hp : ∀ vs, H p ≠ some (.tup vs)) (h : LR X ρ m H l σ) : LR X ρ m (L2.upd H p o) l σ :=
  ⟨h.len, fun i x q => let ⟨v, a, b⟩ := h.get i x q; ⟨v, a, (RR.upd hp _).1 _ b⟩⟩
end

/-! ### what an answer must bear -/
abbrev KE := Pl → Nat → Tr → Hp → EV → Prop
section
variable (X : Fix) (CV : Nat → Value) (W : WX)
/-- what an exception carries: nothing, or a dict with its line -/
def XR (ρ : Pl) (m : Nat) (H : Hp) (p : EV) (d : Option Addr) : Prop := match p with
  | .non => d = none
  | p => ∃ a y, d = some a ∧ H a = some (.xd [("line", y)]) ∧ R X ρ m H p y
def PostE (σ : L2.St) (ρ : Pl) (m : Nat) (H : Hp) (r : RE) (K : KE) : Prop := match r with
  | .ok v h' m' => ∀ ρ' H', Ext ρ m H ρ' m' H' → S X ρ' m' h' H' → K ρ' m' h' H' v
  | .exc c p h' m' => ∀ ρ' H' d, Ext ρ m H ρ' m' H' → S X ρ' m' h' H' → XR X ρ' m' H' p d → W (CV c) d σ H'
  | .bad => False
def PostS (ρ : Pl) (m : Nat) (H : Hp) (r : RS) (D : Ends) : Prop := match r with
  | .nx l' h' m' => ∀ ρ' H' σ', Ext ρ m H ρ' m' H' → S X ρ' m' h' H' → LR X ρ' m' H' l' σ' → D.nx σ' H'
  | .brk l' h' m' => ∀ ρ' H' σ', Ext ρ m H ρ' m' H' → S X ρ' m' h' H' → LR X ρ' m' H' l' σ' → D.bk σ' H'
  | .cnt l' h' m' => ∀ ρ' H' σ', Ext ρ m H ρ' m' H' → S X ρ' m' h' H' → LR X ρ' m' H' l' σ' → D.ct σ' H'
  | .ret v h' m' => ∀ ρ' H' x, Ext ρ m H ρ' m' H' → S X ρ' m' h' H' → R X ρ' m' H' v x → D.rt x H'
  | .exc c p l' h' m' => ∀ ρ' H' σ' d, Ext ρ m H ρ' m' H' → S X ρ' m' h' H' → LR X ρ' m' H' l' σ' → XR X ρ' m' H' p d → W (CV c) d σ' H'
  | .bad => False
def tE (c : CE) : TE := fun σ H Q => ∃ l h m ρ, S X ρ m h H ∧ LR X ρ m H l σ ∧ PostE X CV W σ ρ m H (c l h m) fun ρ' m' _ H' v => ∀ x, R X ρ' m' H' v x → Q x H'
def tA (c : CE) : TA := fun σ H Q => ∃ l h m ρ, S X ρ m h H ∧ LR X ρ m H l σ ∧ PostE X CV W σ ρ m H (c l h m) fun ρ' m' _ H' v => ∀ xs, RL X ρ' m' H' v xs → Q xs H'
def tT (c : CE) : TT := fun σ H Q => ∃ l h m ρ, S X ρ m h H ∧ LR X ρ m H l σ ∧ PostE X CV W σ ρ m H (c l h m) fun _ _ _ H' v => ∃ b, v = .bl b ∧ Q b H'
def tS (c : CS) : TS := fun D σ H => ∃ l h m ρ, S X ρ m h H ∧ LR X ρ m H l σ ∧ PostS X CV W ρ m H (c l h m) D
end
section
variable {X : Fix} {CV : Nat → Value} {W : WX} {σ : L2.St} {ρ ρ' : Pl} {m m' : Nat} {H H' : Hp} {h h' : Tr} {r : RE} {K K' : KE} {l : LL}
theorem PostE.mono (p : PostE X CV W σ ρ m H r K) (k : ∀ ρ' m' h' H' v, Ext ρ m H ρ' m' H' → S X ρ' m' h' H' → K ρ' m' h' H' v → K' ρ' m' h' H' v) : PostE X CV W σ ρ m H r K' := by
  cases r with
  | ok v h' m' => exact fun ρ' H' e s => k _ _ _ _ _ e s (p ρ' H' e s)
  | exc c p' h' m' => exact p
  | bad => exact p
theorem PostE.shift (p : PostE X CV W σ ρ m H r K) (e : Ext ρ m H ρ' m' H') : PostE X CV W σ ρ' m' H' r K := by
  cases r with
  | ok v h' m' => exact fun g2 H2 e2 s2 => p g2 H2 (e.trans e2) s2
  | exc c p' h' m' => exact fun g2 H2 d e2 s2 => p g2 H2 d (e.trans e2) s2
  | bad => exact p
theorem PostS.shift {r : RS} {D : Ends} (p : PostS X CV W ρ m H r D) (e : Ext ρ m H ρ' m' H') : PostS X CV W ρ' m' H' r D := by
  cases r with
  | nx => exact fun g2 H2 σ2 e2 s2 => p g2 H2 σ2 (e.trans e2) s2
  | brk => exact fun g2 H2 σ2 e2 s2 => p g2 H2 σ2 (e.trans e2) s2
  | cnt => exact fun g2 H2 σ2 e2 s2 => p g2 H2 σ2 (e.trans e2) s2
  | ret => exact fun g2 H2 x e2 s2 => p g2 H2 x (e.trans e2) s2
  | exc => exact fun g2 H2 σ2 d e2 s2 => p g2 H2 σ2 d (e.trans e2) s2
  | bad => exact p
end
noncomputable def bindE (r : RE) (k : EV → Tr → Nat → RE) : RE := RE.rec (motive := fun _ => RE) k (fun c p h m => .exc c p h m) .bad r
noncomputable def bindES (r : RE) (l : LL) (k : EV → Tr → Nat → RS) : RS := RE.rec (motive := fun _ => RS) k (fun c p h m => .exc c p l h m) .bad r
noncomputable def bindN (r : RE) (k : EV → Tr → Nat → RE) : RE := RE.rec (motive := fun _ => RE) k (fun _ _ _ _ => .bad) .bad r
section
variable {X : Fix} {CV : Nat → Value} {W : WX} {σ : L2.St} {ρ ρ' : Pl} {m m' : Nat} {H H' : Hp} {h h' : Tr} {r : RE} {K K' : KE} {l : LL} {D : Ends}
theorem PostE.bind {k : EV → Tr → Nat → RE} (p : PostE X CV W σ ρ m H (bindE r k) K) : PostE X CV W σ ρ m H r fun ρ' m' h' H' v => PostE X CV W σ ρ' m' H' (k v h' m') K := by
  cases r with
  | ok v h1 m1 => exact fun ρ' H' e s => PostE.shift (show PostE X CV W σ ρ m H (k v h1 m1) K from p) e
  | exc c p' h1 m1 => exact p
  | bad => exact p
theorem PostS.bind {k : EV → Tr → Nat → RS} (hl : LR X ρ m H l σ) (p : PostS X CV W ρ m H (bindES r l k) D) : PostE X CV W σ ρ m H r fun ρ' m' h' H' v => PostS X CV W ρ' m' H' (k v h' m') D := by
  cases r with
  | ok v h1 m1 => exact fun ρ' H' e s => PostS.shift (show PostS X CV W ρ m H (k v h1 m1) D from p) e
  | exc c p' h1 m1 => exact fun ρ' H' d e s => p ρ' H' σ d e s (hl.mono e)
  | bad => exact p
theorem PostE.bindN {W0 : WX} {σ0 : L2.St} {ρ1 : Pl} {m1 : Nat} {H1 : Hp} {k : EV → Tr → Nat → RE} (p : PostE X CV W σ ρ m H (Dz.bindN r k) K) : PostE X CV W0 σ0 ρ1 m1 H1 r fun ρ' m' h' H' v => PostE X CV W σ ρ m H (k v h' m') K := by
  cases r with
  | ok v h1 m1 => exact fun ρ' H' e s => p
  | exc c p' h1 m1 => exact p.elim
  | bad => exact p.elim
theorem post_ok {v : EV} (s : S X ρ m h H) (p : PostE X CV W σ ρ m H (.ok v h m) K) : K ρ m h H v := p ρ H Ext.refl s
end
end Dz

namespace Dz
open PySem L2

/-! ### forced numbers, slots, lists -/
noncomputable def forceN {α : Type} (n : Nat) (k : Nat → α) : α := Nat.rec (motive := fun _ => α) (k 0) (fun m _ => k (Nat.succ m)) n
theorem forceN_eq {α : Type} (n : Nat) (k : Nat → α) : forceN n k = k n := by cases n <;> rfl
noncomputable def forceI {α : Type} (i : Int) (k : Int → α) : α := Int.rec (motive := fun _ => α) (fun n => forceN n fun n => k (.ofNat n)) (fun n => forceN n fun n => k (.negSucc n)) i
theorem forceI_eq {α : Type} (i : Int) (k : Int → α) : forceI i k = k i := by
  cases i with
  | ofNat n => exact forceN_eq n (fun n => k (.ofNat n))
  | negSucc n => exact forceN_eq n (fun n => k (.negSucc n))
noncomputable def okInt (i : Int) (h : Tr) (m : Nat) : RE := forceI i fun i => .ok (.int i) h m
theorem okInt_eq (i : Int) (h : Tr) (m : Nat) : okInt i h m = .ok (.int i) h m := forceI_eq i _
noncomputable def okB (b : Bool) (h : Tr) (m : Nat) : RE := Bool.rec (motive := fun _ => RE) (.ok (.bl false) h m) (.ok (.bl true) h m) b
theorem okB_eq (b : Bool) (h : Tr) (m : Nat) : okB b h m = .ok (.bl b) h m := by cases b <;> rfl
noncomputable def lgetK (l : LL) : Nat → (EV → RE) → RE := LL.rec (motive := fun _ => Nat → (EV → RE) → RE) (fun _ _ => .bad)
  (fun _ ih n k => Nat.rec (motive := fun _ => RE) .bad (fun j _ => ih j k) n) (fun x _ ih n k => Nat.rec (motive := fun _ => RE) (k x) (fun j _ => ih j k) n) l
noncomputable def lsetK {α : Type} (v : EV) (d : α) (l : LL) : Nat → (LL → α) → α := LL.rec (motive := fun _ => Nat → (LL → α) → α) (fun _ _ => d)
  (fun r ih n k => Nat.rec (motive := fun _ => α) (k (.as v r)) (fun j _ => ih j fun ys => k (.un ys)) n) (fun x r ih n k => Nat.rec (motive := fun _ => α) (k (.as v r)) (fun j _ => ih j fun ys => k (.as x ys)) n) l
theorem lgetK_eq : ∀ (l : LL) (n : Nat) (k : EV → RE), (∃ x, (LLs l)[n]? = some (some x) ∧ lgetK l n k = k x) ∨ lgetK l n k = .bad
  | .nil, n, k => .inr rfl
  | .un r, 0, k => .inr rfl
  | .un r, n + 1, k => lgetK_eq r n k
  | .as x r, 0, k => .inl ⟨x, rfl, rfl⟩
  | .as x r, n + 1, k => lgetK_eq r n k
theorem lsetK_eq {α : Type} (v : EV) (d : α) : ∀ (l : LL) (n : Nat) (k : LL → α), (∃ l', LLs l' = (LLs l).set n (some v) ∧ n < (LLs l).length ∧ lsetK v d l n k = k l') ∨ lsetK v d l n k = d
  | .nil, n, k => .inr rfl
  | .un r, 0, k => .inl ⟨.as v r, rfl, Nat.zero_lt_succ _, rfl⟩
  | .un r, n + 1, k => by
    rcases lsetK_eq v d r n (fun ys => k (.un ys)) with ⟨l', e, hl, q⟩ | q
    · exact .inl ⟨.un l', by show none :: LLs l' = _; rw [e]; rfl, Nat.succ_lt_succ hl, q⟩
    · exact .inr q
  | .as x r, 0, k => .inl ⟨.as v r, rfl, Nat.zero_lt_succ _, rfl⟩
  | .as x r, n + 1, k => by
    rcases lsetK_eq v d r n (fun ys => k (.as x ys)) with ⟨l', e, hl, q⟩ | q
    · exact .inl ⟨.as x l', by show some x :: LLs l' = _; rw [e]; rfl, Nat.succ_lt_succ hl, q⟩
    · exact .inr q
section
variable {X : Fix}
theorem LR.set {ρ m H l l' σ n v x} (h : LR X ρ m H l σ) (e : LLs l' = (LLs l).set n (some v)) (hn : n < (LLs l).length) (r : R X ρ m H v x) : LR X ρ m H l' (σ.set n (some x)) := by
  refine ⟨by rw [List.length_set, h.len, e, List.length_set], fun i y q => ?_⟩
  rw [e] at q
  by_cases hi : i = n
  · subst hi
    rw [List.getElem?_set_self hn] at q
    have q' : v = y := Option.some.inj (Option.some.inj q)
    subst q'
    exact ⟨x, List.getElem?_set_self (by rw [h.len]; exact hn), r⟩
  · rw [List.getElem?_set_ne (Ne.symm hi)] at q
    obtain ⟨u, a, b⟩ := h.get i y q
    exact ⟨u, by rw [List.getElem?_set_ne (Ne.symm hi)]; exact a, b⟩
end
/-- a list's items: what is asked of another thing is d -/
noncomputable def elist {α : Type} (d : α) (z : α) (c : EV → EV → α → α) (x : EV) : α := EV.rec (motive := fun _ => α) d (fun _ => d) (fun _ => d) (fun _ _ => d) z (fun x xs _ ih => c x xs ih) (fun _ _ => d) (fun _ _ => d) (fun _ => d) (fun _ => d) (fun _ => d) x
noncomputable def appK {α : Type} (ys : EV) (x : EV) : (EV → α) → α := elist (fun k => k ys) (fun k => k ys) (fun x _ ih k => ih fun z => k (.cons x z)) x
noncomputable def revK {α : Type} (x : EV) : EV → (EV → α) → α := elist (fun a k => k a) (fun a k => k a) (fun x _ ih a k => ih (.cons x a) k) x
noncomputable def lenK {α : Type} (x : EV) : Nat → (Nat → α) → α := elist (fun n k => k n) (fun n k => k n) (fun _ _ ih n k => forceN (Nat.succ n) fun m => ih m k) x
section
variable {X : Fix} {ρ : Pl} {m : Nat} {H : Hp}
theorem RL.nil_of {e : EV} (r : RL X ρ m H e []) : e = .nil := by
  cases e with
  | nil => rfl
  | cons => obtain ⟨_, _, e, _⟩ := r; cases e
  | _ => exact r.elim
theorem RL.cons_of {e : EV} {x : V} {xs : List V} (r : RL X ρ m H e (x :: xs)) : ∃ v t, e = .cons v t ∧ R X ρ m H v x ∧ RL X ρ m H t xs := by
  cases e with
  | cons v t =>
    obtain ⟨x', r', ex, rx, rr⟩ := r
    injection ex with e1 e2
    subst e1; subst e2
    exact ⟨v, t, rfl, rx, rr⟩
  | nil => exact nomatch r
  | _ => exact r.elim
theorem RL.nil : RL X ρ m H .nil [] := rfl
theorem RL.cons {v t : EV} {x : V} {xs : List V} (a : R X ρ m H v x) (b : RL X ρ m H t xs) : RL X ρ m H (.cons v t) (x :: xs) := ⟨x, xs, rfl, a, b⟩
theorem appK_RL {α : Type} {ys : EV} {ws : List V} (hy : RL X ρ m H ys ws) : ∀ (x : EV) (vs : List V), RL X ρ m H x vs → ∀ k : EV → α, ∃ z, appK ys x k = k z ∧ RL X ρ m H z (vs ++ ws)
  | x, [], h, k => by
    cases h.nil_of
    exact ⟨ys, rfl, hy⟩
  | x, v :: vs, h, k => by
    obtain ⟨a, r, e, h1, h2⟩ := h.cons_of
    subst e
    obtain ⟨z, e, q⟩ := appK_RL hy r vs h2 (fun z => k (.cons a z))
    exact ⟨.cons a z, e, v, _, rfl, h1, q⟩
theorem revK_RL {α : Type} : ∀ (x : EV) (vs : List V) (a : EV) (ws : List V), RL X ρ m H x vs → RL X ρ m H a ws → ∀ k : EV → α, ∃ z, revK x a k = k z ∧ RL X ρ m H z (vs.reverse ++ ws)
  | x, [], a, ws, h, ha, k => by
    cases h.nil_of
    exact ⟨a, rfl, ha⟩
  | x, v :: vs, a, ws, h, ha, k => by
    obtain ⟨b, r, e, h1, h2⟩ := h.cons_of
    subst e
    obtain ⟨z, e, q⟩ := revK_RL r vs (.cons b a) (v :: ws) h2 ⟨v, ws, rfl, h1, ha⟩ k
    exact ⟨z, e, by rw [List.reverse_cons, List.append_assoc]; exact q⟩
/-- a list turned -/
theorem rev_of {α : Type} {x : EV} {vs : List V} (h : RL X ρ m H x vs) (k : EV → α) : ∃ z, revK x .nil k = k z ∧ RL X ρ m H z vs.reverse := by
  obtain ⟨z, e, q⟩ := revK_RL x vs .nil [] h RL.nil k
  rw [List.append_nil] at q
  exact ⟨z, e, q⟩
theorem unrev_of {α : Type} {x : EV} {vs : List V} (h : RL X ρ m H x vs.reverse) (k : EV → α) : ∃ z, revK x .nil k = k z ∧ RL X ρ m H z vs := by
  obtain ⟨z, e, q⟩ := rev_of h k
  rw [List.reverse_reverse] at q
  exact ⟨z, e, q⟩
theorem lenK_RL {α : Type} : ∀ (x : EV) (vs : List V), RL X ρ m H x vs → ∀ (n : Nat) (k : Nat → α), lenK x n k = k (n + vs.length)
  | x, [], h, n, k => by cases h.nil_of; rfl
  | x, v :: vs, h, n, k => by
    obtain ⟨b, r, e, h1, h2⟩ := h.cons_of
    subst e
    show forceN (Nat.succ n) (fun m => lenK r m k) = _
    rw [forceN_eq, lenK_RL r vs h2]
    congr 1
    rw [List.length_cons]; omega
end
/-! ### kinds of values -/
noncomputable def onInt {α : Type} (d : α) (k : Int → α) (x : EV) : α := EV.rec (motive := fun _ => α) d (fun _ => d) k (fun _ _ => d) d (fun _ _ _ _ => d) (fun _ _ => d) (fun _ _ => d) (fun _ => d) (fun _ => d) (fun _ => d) x
noncomputable def onBl {α : Type} (d : α) (k : Bool → α) (x : EV) : α := EV.rec (motive := fun _ => α) d k (fun _ => d) (fun _ _ => d) d (fun _ _ _ _ => d) (fun _ _ => d) (fun _ _ => d) (fun _ => d) (fun _ => d) (fun _ => d) x
noncomputable def onRef {α : Type} (d : α) (k : Nat → α) (x : EV) : α := EV.rec (motive := fun _ => α) d (fun _ => d) (fun _ => d) (fun _ _ => d) d (fun _ _ _ _ => d) (fun _ _ => d) (fun _ _ => d) k (fun _ => d) (fun _ => d) x
noncomputable def onStr {α : Type} (d : α) (k : EV → α) (x : EV) : α := EV.rec (motive := fun _ => α) d (fun _ => d) (fun _ => d) (fun s _ => k s) d (fun _ _ _ _ => d) (fun _ _ => d) (fun _ _ => d) (fun _ => d) (fun _ => d) (fun _ => d) x
noncomputable def onTup {α : Type} (d : α) (k : EV → α) (x : EV) : α := EV.rec (motive := fun _ => α) d (fun _ => d) (fun _ => d) (fun _ _ => d) d (fun _ _ _ _ => d) (fun xs _ => k xs) (fun _ _ => d) (fun _ => d) (fun _ => d) (fun _ => d) x
noncomputable def onCst {α : Type} (d : α) (k : Nat → α) (x : EV) : α := EV.rec (motive := fun _ => α) d (fun _ => d) (fun _ => d) (fun _ _ => d) d (fun _ _ _ _ => d) (fun _ _ => d) (fun _ _ => d) (fun _ => d) (fun _ => d) k x
noncomputable def onCons {α : Type} (d : α) (k : EV → EV → α) (x : EV) : α := EV.rec (motive := fun _ => α) d (fun _ => d) (fun _ => d) (fun _ _ => d) d (fun x xs _ _ => k x xs) (fun _ _ => d) (fun _ _ => d) (fun _ => d) (fun _ => d) (fun _ => d) x
noncomputable def onNil {α : Type} (d : α) (k : α) (x : EV) : α := EV.rec (motive := fun _ => α) d (fun _ => d) (fun _ => d) (fun _ _ => d) k (fun _ _ _ _ => d) (fun _ _ => d) (fun _ _ => d) (fun _ => d) (fun _ => d) (fun _ => d) x
noncomputable def onLst {α : Type} (d : α) (k : EV → α) (o : Option EO) : α := Option.rec (motive := fun _ => α) d (fun o => EO.rec (motive := fun _ => α) k (fun _ => d) (fun _ => d) (fun _ _ => d) o) o
noncomputable def onDct {α : Type} (d : α) (k : EV → α) (o : Option EO) : α := Option.rec (motive := fun _ => α) d (fun o => EO.rec (motive := fun _ => α) (fun _ => d) k (fun _ => d) (fun _ _ => d) o) o
noncomputable def onIns {α : Type} (d : α) (k : Nat → EV → α) (o : Option EO) : α := Option.rec (motive := fun _ => α) d (fun o => EO.rec (motive := fun _ => α) (fun _ => d) (fun _ => d) (fun _ => d) k o) o
section
variable {X : Fix} {CV : Nat → Value} {W : WX} {σ : L2.St} {ρ : Pl} {m : Nat} {H : Hp} {h : Tr} {K : KE} {α : Type} {P : α → Prop} {d : α}
theorem onInt_of (hb : ¬ P d) {k : Int → α} {v : EV} {x : V} (rx : R X ρ m H v x) (q : P (onInt d k v)) : ∃ i, v = .int i ∧ x = .int i ∧ P (k i) := by
  cases v with
  | int i => exact ⟨i, rfl, rx, q⟩
  | _ => exact absurd q hb
theorem onBl_of (hb : ¬ P d) {k : Bool → α} {v : EV} {x : V} (rx : R X ρ m H v x) (q : P (onBl d k v)) : ∃ i, v = .bl i ∧ x = .bl i ∧ P (k i) := by
  cases v with
  | bl i => exact ⟨i, rfl, rx, q⟩
  | _ => exact absurd q hb
theorem onBl_of' (hb : ¬ P d) {k : Bool → α} {v : EV} (q : P (onBl d k v)) : ∃ i, v = .bl i ∧ P (k i) := by
  cases v with
  | bl i => exact ⟨i, rfl, q⟩
  | _ => exact absurd q hb
theorem onRef_of (hb : ¬ P d) {k : Nat → α} {v : EV} {x : V} (rx : R X ρ m H v x) (q : P (onRef d k v)) : ∃ i, v = .ref i ∧ i < m ∧ x = .ref (ρ i) ∧ P (k i) := by
  cases v with
  | ref i => exact ⟨i, rfl, rx.1, rx.2, q⟩
  | _ => exact absurd q hb
theorem onStr_of (hb : ¬ P d) {k : EV → α} {v : EV} {x : V} (rx : R X ρ m H v x) (q : P (onStr d k v)) : ∃ s l, v = .str s ∧ cdx s = some l ∧ x = .str ⟨l.toArray⟩ ∧ P (k s) := by
  cases v with
  | str s => obtain ⟨l, h1, h2⟩ := rx; exact ⟨s, l, rfl, h1, h2, q⟩
  | _ => exact absurd q hb
theorem onTup_of (hb : ¬ P d) {k : EV → α} {v : EV} {x : V} (rx : R X ρ m H v x) (q : P (onTup d k v)) : ∃ xs a vs, v = .tup xs ∧ x = .ref a ∧ H a = some (.tup vs) ∧ Off ρ m a ∧ RL X ρ m H xs vs ∧ P (k xs) := by
  cases v with
  | tup xs => obtain ⟨a, vs, h1, h2, h3, h4⟩ := rx; exact ⟨xs, a, vs, rfl, h1, h2, h3, h4, q⟩
  | _ => exact absurd q hb
theorem onCst_of (hb : ¬ P d) {k : Nat → α} {v : EV} {x : V} (rx : R X ρ m H v x) (q : P (onCst d k v)) : ∃ n, v = .cst n ∧ x = X.cv n ∧ P (k n) := by
  cases v with
  | cst n => exact ⟨n, rfl, rx, q⟩
  | _ => exact absurd q hb
theorem onCons_of (hb : ¬ P d) {k : EV → EV → α} {v : EV} {xs : List V} (rx : RL X ρ m H v xs) (q : P (onCons d k v)) : ∃ a r x t, v = .cons a r ∧ xs = x :: t ∧ R X ρ m H a x ∧ RL X ρ m H r t ∧ P (k a r) := by
  cases v with
  | cons a r => obtain ⟨x, t, h1, h2, h3⟩ := rx; exact ⟨a, r, x, t, rfl, h1, h2, h3, q⟩
  | _ => exact absurd q hb
theorem onNil_of (hb : ¬ P d) {k : α} {v : EV} {xs : List V} (rx : RL X ρ m H v xs) (q : P (onNil d k v)) : v = .nil ∧ xs = [] ∧ P k := by
  cases v with
  | nil => exact ⟨rfl, rx, q⟩
  | _ => exact absurd q hb
theorem onLst_of (hb : ¬ P d) {k : EV → α} (s : S X ρ m h H) {i : Nat} (hi : i < m) (q : P (onLst d k (tget h i))) : ∃ xs vs, tget h i = some (.lst xs) ∧ H (ρ i) = some (.lst vs) ∧ RL X ρ m H xs vs ∧ P (k xs) := by
  obtain ⟨o, ho, r⟩ := s.obj i hi
  rw [ho] at q
  cases o with
  | lst xs => obtain ⟨vs, q1, r1⟩ := r; exact ⟨xs, vs, ho, q1, r1, q⟩
  | _ => exact absurd q hb
theorem onDct_of (hb : ¬ P d) {k : EV → α} (s : S X ρ m h H) {i : Nat} (hi : i < m) (q : P (onDct d k (tget h i))) : ∃ xs es, tget h i = some (.dct xs) ∧ H (ρ i) = some (.dK es) ∧ RD X ρ m H xs es ∧ P (k xs) := by
  obtain ⟨o, ho, r⟩ := s.obj i hi
  rw [ho] at q
  cases o with
  | dct xs => obtain ⟨vs, q1, r1⟩ := r; exact ⟨xs, vs, ho, q1, r1, q⟩
  | _ => exact absurd q hb
theorem onIns_of (hb : ¬ P d) {k : Nat → EV → α} (s : S X ρ m h H) {i : Nat} (hi : i < m) (q : P (onIns d k (tget h i))) : ∃ c fs dx vf, tget h i = some (.ins c fs) ∧ H (ρ i) = some (.ins (X.ca c) dx vf) ∧ RF X ρ m H fs vf ∧ P (k c fs) := by
  obtain ⟨o, ho, r⟩ := s.obj i hi
  rw [ho] at q
  cases o with
  | ins c fs => obtain ⟨dx, vf, q1, r1⟩ := r; exact ⟨c, fs, dx, vf, ho, q1, r1, q⟩
  | _ => exact absurd q hb
theorem bcase {b : Bool} {A B : α} (q : P (Bool.rec (motive := fun _ => α) A B b)) : (b = false ∧ P A) ∨ (b = true ∧ P B) := by
  cases b with
  | false => exact .inl ⟨rfl, q⟩
  | true => exact .inr ⟨rfl, q⟩
end
/-! ### the store's tree -/
noncomputable def tnewK {α : Type} (o : EO) (d : α) (f : Nat) : Nat → (Tr → α) → α := Nat.rec (motive := fun _ => Nat → (Tr → α) → α) (fun _ _ => d)
  (fun _ ih n k => Nat.rec (motive := fun _ => α) (k (.node (some o) .leaf .leaf)) (fun j _ => Bool.rec (motive := fun _ => α) (ih (Nat.div j 2) fun t => k (.node none .leaf t)) (ih (Nat.div j 2) fun t => k (.node none t .leaf)) (Nat.beq (Nat.mod j 2) 0)) n) f
noncomputable def tsetK {α : Type} (o : EO) (d : α) (t : Tr) : Nat → (Tr → α) → α := Tr.rec (motive := fun _ => Nat → (Tr → α) → α) (fun n k => tnewK o d 40 n k)
  (fun v l r il ir n k => Nat.rec (motive := fun _ => α) (k (.node (some o) l r)) (fun j _ => Bool.rec (motive := fun _ => α) (ir (Nat.div j 2) fun t => k (.node v l t)) (il (Nat.div j 2) fun t => k (.node v t r)) (Nat.beq (Nat.mod j 2) 0)) n) t
theorem half_inj {i j : Nat} (h : Nat.div i 2 = Nat.div j 2) (a : Nat.beq (Nat.mod i 2) 0 = Nat.beq (Nat.mod j 2) 0) : i = j := by
  have h' : i / 2 = j / 2 := h
  have a1 : i % 2 = 0 ↔ j % 2 = 0 := by
    have e1 : Nat.beq (i % 2) 0 = Nat.beq (j % 2) 0 := a
    rw [← Nat.beq_eq, ← Nat.beq_eq, e1]
  omega
theorem tnewK_eq {α : Type} (o : EO) (d : α) : ∀ (f n : Nat) (k : Tr → α), (∃ t', (∀ i, tget t' i = if i = n then some o else none) ∧ tnewK o d f n k = k t') ∨ tnewK o d f n k = d
  | 0, n, k => .inr rfl
  | f + 1, 0, k => .inl ⟨.node (some o) .leaf .leaf, fun i => by
    cases i with
    | zero => rfl
    | succ i =>
      rw [if_neg (by omega)]
      show Bool.rec (motive := fun _ => Option EO) none none (Nat.beq (Nat.mod i 2) 0) = none
      cases Nat.beq (Nat.mod i 2) 0 <;> rfl, rfl⟩
  | f + 1, n + 1, k => by
    show (∃ t', _ ∧ Bool.rec (motive := fun _ => α) (tnewK o d f (Nat.div n 2) fun t => k (.node none .leaf t)) (tnewK o d f (Nat.div n 2) fun t => k (.node none t .leaf)) (Nat.beq (Nat.mod n 2) 0) = k t') ∨ Bool.rec (motive := fun _ => α) _ _ _ = d
    cases z : Nat.beq (Nat.mod n 2) 0 with
    | false =>
      rcases tnewK_eq o d f (Nat.div n 2) (fun t => k (.node none .leaf t)) with ⟨t', h, e⟩ | e
      · refine .inl ⟨.node none .leaf t', fun i => ?_, e⟩
        cases i with
        | zero => rfl
        | succ i =>
          show Bool.rec (motive := fun _ => Option EO) (tget t' (Nat.div i 2)) none (Nat.beq (Nat.mod i 2) 0) = _
          cases y : Nat.beq (Nat.mod i 2) 0 with
          | true => rw [if_neg (fun e => by have : i = n := by omega
                                            rw [this, z] at y; cases y)]
          | false =>
            show tget t' (Nat.div i 2) = _
            rw [h]
            by_cases q : i = n
            · rw [q, if_pos rfl, if_pos rfl]
            · rw [if_neg (fun w => q (half_inj w (by rw [y, z]))), if_neg (by omega)]
      · exact .inr e
    | true =>
      rcases tnewK_eq o d f (Nat.div n 2) (fun t => k (.node none t .leaf)) with ⟨t', h, e⟩ | e
      · refine .inl ⟨.node none t' .leaf, fun i => ?_, e⟩
        cases i with
        | zero => rfl
        | succ i =>
          show Bool.rec (motive := fun _ => Option EO) none (tget t' (Nat.div i 2)) (Nat.beq (Nat.mod i 2) 0) = _
          cases y : Nat.beq (Nat.mod i 2) 0 with
          | false => rw [if_neg (fun e => by have : i = n := by omega
                                             rw [this, z] at y; cases y)]
          | true =>
            show tget t' (Nat.div i 2) = _
            rw [h]
            by_cases q : i = n
            · rw [q, if_pos rfl, if_pos rfl]
            · rw [if_neg (fun w => q (half_inj w (by rw [y, z]))), if_neg (by omega)]
      · exact .inr e
theorem tsetK_eq {α : Type} (o : EO) (d : α) : ∀ (t : Tr) (n : Nat) (k : Tr → α), (∃ t', (∀ i, tget t' i = if i = n then some o else tget t i) ∧ tsetK o d t n k = k t') ∨ tsetK o d t n k = d
  | .leaf, n, k => by
    rcases tnewK_eq o d 40 n k with ⟨t', h, e⟩ | e
    · exact .inl ⟨t', h, e⟩
    · exact .inr e
  | .node v l r, 0, k => .inl ⟨.node (some o) l r, fun i => by cases i <;> rfl, rfl⟩
  | .node v l r, n + 1, k => by
    show (∃ t', _ ∧ Bool.rec (motive := fun _ => α) (tsetK o d r (Nat.div n 2) fun t => k (.node v l t)) (tsetK o d l (Nat.div n 2) fun t => k (.node v t r)) (Nat.beq (Nat.mod n 2) 0) = k t') ∨ Bool.rec (motive := fun _ => α) _ _ _ = d
    cases z : Nat.beq (Nat.mod n 2) 0 with
    | false =>
      rcases tsetK_eq o d r (Nat.div n 2) (fun t => k (.node v l t)) with ⟨t', h, e⟩ | e
      · refine .inl ⟨.node v l t', fun i => ?_, e⟩
        cases i with
        | zero => rfl
        | succ i =>
          show Bool.rec (motive := fun _ => Option EO) (tget t' (Nat.div i 2)) (tget l (Nat.div i 2)) (Nat.beq (Nat.mod i 2) 0) = if i + 1 = n + 1 then some o else Bool.rec (motive := fun _ => Option EO) (tget r (Nat.div i 2)) (tget l (Nat.div i 2)) (Nat.beq (Nat.mod i 2) 0)
          cases y : Nat.beq (Nat.mod i 2) 0 with
          | true => rw [if_neg (fun e => by have : i = n := by omega
                                            rw [this, z] at y; cases y)]
          | false =>
            show tget t' (Nat.div i 2) = _
            rw [h]
            by_cases q : i = n
            · rw [q, if_pos rfl, if_pos rfl]
            · rw [if_neg (fun w => q (half_inj w (by rw [y, z]))), if_neg (by omega)]
      · exact .inr e
    | true =>
      rcases tsetK_eq o d l (Nat.div n 2) (fun t => k (.node v t r)) with ⟨t', h, e⟩ | e
      · refine .inl ⟨.node v t' r, fun i => ?_, e⟩
        cases i with
        | zero => rfl
        | succ i =>
          show Bool.rec (motive := fun _ => Option EO) (tget r (Nat.div i 2)) (tget t' (Nat.div i 2)) (Nat.beq (Nat.mod i 2) 0) = if i + 1 = n + 1 then some o else Bool.rec (motive := fun _ => Option EO) (tget r (Nat.div i 2)) (tget l (Nat.div i 2)) (Nat.beq (Nat.mod i 2) 0)
          cases y : Nat.beq (Nat.mod i 2) 0 with
          | false => rw [if_neg (fun e => by have : i = n := by omega
                                             rw [this, z] at y; cases y)]
          | true =>
            show tget t' (Nat.div i 2) = _
            rw [h]
            by_cases q : i = n
            · rw [q, if_pos rfl, if_pos rfl]
            · rw [if_neg (fun w => q (half_inj w (by rw [y, z]))), if_neg (by omega)]
      · exact .inr e
/-! ### a new object of the store; one that changes -/
def Pl.more (ρ : Pl) (m : Nat) (p : Addr) : Pl := fun i => if i = m then p else ρ i
section
variable {X : Fix} {CV : Nat → Value} {W : WX} {σ : L2.St} {ρ : Pl} {m : Nat} {H : Hp} {h h' : Tr} {K : KE}
theorem S.notT (s : S X ρ m h H) {i : Nat} (hi : i < m) : ∀ vs, H (ρ i) ≠ some (.tup vs) := fun vs z => s.offT z i hi rfl
theorem more_self {p : Addr} : Pl.more ρ m p m = p := if_pos rfl
theorem more_old {p : Addr} {i : Nat} (hi : i < m) : Pl.more ρ m p i = ρ i := if_neg (Nat.ne_of_lt hi)
theorem more_ext {p : Addr} {o : HO} (hp : H p = none) : Ext ρ m H (Pl.more ρ m p) (m + 1) (upd H p o) :=
  ⟨Nat.le_succ _, fun i hi => more_old hi, fun i a b => by
    have : i = m := by omega
    rw [this, more_self]; exact hp, fun a u e _ => by rw [upd_ne (ne_of_none e hp)]; exact e, fun a z => by
    by_cases q : a = p
    · rw [q]; exact hp
    · rw [upd_ne q] at z; exact z, fun a w u e => by rw [upd_ne (ne_of_none e hp)]; exact e⟩
theorem more_S {p : Addr} {o : EO} {ho : HO} (s : S X ρ m h H) (hp : H p = none) (ro : RO X (Pl.more ρ m p) (m + 1) (upd H p ho) p o) (ht : ∀ i, tget h' i = if i = m then some o else tget h i) : S X (Pl.more ρ m p) (m + 1) h' (upd H p ho) := by
  have ex := more_ext (ρ := ρ) (m := m) (o := ho) hp
  have np : ∀ i, i < m → ρ i ≠ p := s.off hp
  refine ⟨fun i j hi hj e => ?_, fun i hi => ?_⟩
  · by_cases a : i = m
    · by_cases b : j = m
      · omega
      · rw [a, more_self, more_old (by omega)] at e
        exact absurd e.symm (np j (by omega))
    · by_cases b : j = m
      · rw [b, more_self, more_old (by omega)] at e
        exact absurd e (np i (by omega))
      · rw [more_old (by omega), more_old (by omega)] at e
        exact s.inj i j (by omega) (by omega) e
  · by_cases a : i = m
    · subst a
      exact ⟨o, by rw [ht, if_pos rfl], by rw [more_self]; exact ro⟩
    · obtain ⟨u, hu, r⟩ := s.obj i (by omega)
      refine ⟨u, by rw [ht, if_neg a]; exact hu, ?_⟩
      rw [more_old (by omega)]
      exact RO.mono ex (upd_ne (np i (by omega))) r
theorem put_ext {i : Nat} {o : HO} (hi : i < m) {u : HO} (hu : H (ρ i) = some u) (nf : ∀ w v, u ≠ .frz w v) : Ext ρ m H ρ m (upd H (ρ i) o) :=
  ⟨Nat.le_refl _, fun _ _ => rfl, fun i a b => absurd (Nat.lt_of_lt_of_le b a) (Nat.lt_irrefl _), fun a u e ng => by rw [upd_ne (fun z => ng i hi z.symm)]; exact e, fun a z => by
    by_cases q : a = ρ i
    · rw [q, upd_same] at z; cases z
    · rw [upd_ne q] at z; exact z, fun a w v e => by rw [upd_ne (fun z => nf w v (by rw [z, hu] at e; exact Option.some.inj e))]; exact e⟩
theorem put_S {i : Nat} {o : EO} {ho : HO} (s : S X ρ m h H) (hi : i < m) (ro : RO X ρ m (upd H (ρ i) ho) (ρ i) o) (ht : ∀ j, tget h' j = if j = i then some o else tget h j) : S X ρ m h' (upd H (ρ i) ho) := by
  refine ⟨s.inj, fun j hj => ?_⟩
  by_cases b : j = i
  · subst b
    exact ⟨o, by rw [ht, if_pos rfl], ro⟩
  · obtain ⟨u, hu, r⟩ := s.obj j hj
    exact ⟨u, by rw [ht, if_neg b]; exact hu, RO.upd (s.notT hi) (fun z => b (s.inj j i hj hi z)) r⟩
/-- the answer that a new object gives -/
noncomputable def newK (o : EO) (h : Tr) (m : Nat) : RE := tsetK o .bad h m fun h' => forceN (Nat.succ m) fun m' => .ok (.ref m) h' m'
theorem newK_of {o : EO} {p : Addr} {ho : HO} (s : S X ρ m h H) (hp : H p = none) (ro : RO X (Pl.more ρ m p) (m + 1) (upd H p ho) p o) (q : PostE X CV W σ ρ m H (newK o h m) K) :
    ∃ h', K (Pl.more ρ m p) (m + 1) h' (upd H p ho) (.ref m) ∧ S X (Pl.more ρ m p) (m + 1) h' (upd H p ho) ∧ R X (Pl.more ρ m p) (m + 1) (upd H p ho) (.ref m) (.ref p) := by
  unfold newK at q
  rcases tsetK_eq o RE.bad h m (fun h' => forceN (Nat.succ m) fun m' => .ok (.ref m) h' m') with ⟨h', ht, et⟩ | et
  · rw [et, forceN_eq] at q
    have s' := more_S s hp ro ht
    exact ⟨h', q _ _ (more_ext hp) s', s', Nat.lt_succ_self _, by rw [more_self]⟩
  · rw [et] at q; exact q.elim
/-- the answer of a call that changes an object -/
noncomputable def putK (o : EO) (i : Nat) (v : EV) (h : Tr) (m : Nat) : RE := tsetK o .bad h i fun h' => .ok v h' m
theorem putK_of {o : EO} {i : Nat} {v : EV} {ho : HO} {u : HO} (s : S X ρ m h H) (hi : i < m) (hu : H (ρ i) = some u) (nf : ∀ w v, u ≠ .frz w v) (ro : RO X ρ m (upd H (ρ i) ho) (ρ i) o) (q : PostE X CV W σ ρ m H (putK o i v h m) K) : ∃ h', K ρ m h' (upd H (ρ i) ho) v ∧ S X ρ m h' (upd H (ρ i) ho) := by
  unfold putK at q
  rcases tsetK_eq o RE.bad h i (fun h' => .ok v h' m) with ⟨h', ht, et⟩ | et
  · rw [et] at q
    have s' := put_S s hi ro ht
    exact ⟨h', q _ _ (put_ext hi hu nf) s', s'⟩
  · rw [et] at q; exact q.elim
/-- an answer that is given behind a new object off the store -/
theorem post_new {v : EV} {p : Addr} {o : HO} (s : S X ρ m h H) (hp : H p = none) (q : PostE X CV W σ ρ m H (.ok v h m) K) : K ρ m h (upd H p o) v := q ρ (upd H p o) (Ext.laid hp) (s.laid hp)
theorem R.tup {p : Addr} {e : EV} {vs : List V} (s : S X ρ m h H) (hp : H p = none) (r : RL X ρ m H e vs) : R X ρ m (upd H p (.tup vs)) (.tup e) (.ref p) :=
  ⟨p, vs, rfl, upd_same, s.off hp, r.mono (Ext.laid hp)⟩
/-- a list's length is told -/
noncomputable def lenOk (x : EV) (r : RE) : RE := lenK x 0 fun n => Bool.rec (motive := fun _ => RE) .bad r (Nat.ble n 16000000)
theorem lenOk_of {P : RE → Prop} (hb : ¬ P .bad) {xs : EV} {vs : List V} {r : RE} (rl : RL X ρ m H xs vs) (p : P (lenOk xs r)) : vs.length ≤ 16000000 ∧ P r := by
  unfold lenOk at p
  rw [lenK_RL xs vs rl, Nat.zero_add] at p
  rcases bcase p with ⟨_, q⟩ | ⟨z, q⟩
  · exact absurd q hb
  · exact ⟨Nat.le_of_ble_eq_true z, q⟩
theorem small16 {n : Nat} (h : n ≤ 16000000) : n < sizeLine := Nat.lt_of_le_of_lt h (by decide)
/-- a list or a tuple, its items -/
noncomputable def seqK (kL kT : EV → RE) (v : EV) (h : Tr) : RE := EV.rec (motive := fun _ => RE) .bad (fun _ => .bad) (fun _ => .bad) (fun _ _ => .bad) .bad (fun _ _ _ _ => .bad) (fun xs _ => kT xs) (fun _ _ => .bad)
  (fun a => onLst .bad kL (tget h a)) (fun _ => .bad) (fun _ => .bad) v
theorem seqK_of {P : RE → Prop} (hb : ¬ P .bad) {kL kT : EV → RE} {v : EV} {x : V} (s : S X ρ m h H) (rx : R X ρ m H v x) (p : P (seqK kL kT v h)) :
    ∃ a vs e, x = .ref a ∧ RL X ρ m H e vs ∧ ((H a = some (.lst vs) ∧ (∃ i, v = .ref i ∧ i < m ∧ a = ρ i) ∧ P (kL e)) ∨ (H a = some (.tup vs) ∧ v = .tup e ∧ Off ρ m a ∧ P (kT e))) := by
  cases v with
  | tup xs => obtain ⟨a, vs, e, h1, h0, h2⟩ := rx; exact ⟨a, vs, xs, e, h2, .inr ⟨h1, rfl, h0, p⟩⟩
  | ref i =>
    obtain ⟨hi, e⟩ := rx
    obtain ⟨xs, vs, ho, hv, rv, q⟩ := onLst_of hb s hi (show P (onLst .bad kL (tget h i)) from p)
    exact ⟨ρ i, vs, xs, e, rv, .inl ⟨hv, ⟨i, rfl, hi, rfl⟩, q⟩⟩
  | _ => exact absurd p hb
end
section
variable {X : Fix} {CV : Nat → Value} {W : WX} {σ : L2.St} {ρ ρ1 : Pl} {m m1 : Nat} {H H1 : Hp} {h : Tr} {K : KE} {D : Ends}
theorem onInt_E {v : EV} {x : V} (rx : R X ρ m H v x) {k : Int → RE} (q : PostE X CV W σ ρ1 m1 H1 (onInt .bad k v) K) : ∃ i, v = .int i ∧ x = .int i ∧ PostE X CV W σ ρ1 m1 H1 (k i) K := onInt_of (d := .bad) (P := fun r => PostE X CV W σ ρ1 m1 H1 r K) (fun z => z) rx q
theorem onBl_E {v : EV} {x : V} (rx : R X ρ m H v x) {k : Bool → RE} (q : PostE X CV W σ ρ1 m1 H1 (onBl .bad k v) K) : ∃ i, v = .bl i ∧ x = .bl i ∧ PostE X CV W σ ρ1 m1 H1 (k i) K := onBl_of (d := .bad) (P := fun r => PostE X CV W σ ρ1 m1 H1 r K) (fun z => z) rx q
theorem onRef_E {v : EV} {x : V} (rx : R X ρ m H v x) {k : Nat → RE} (q : PostE X CV W σ ρ1 m1 H1 (onRef .bad k v) K) : ∃ i, v = .ref i ∧ i < m ∧ x = .ref (ρ i) ∧ PostE X CV W σ ρ1 m1 H1 (k i) K := onRef_of (d := .bad) (P := fun r => PostE X CV W σ ρ1 m1 H1 r K) (fun z => z) rx q
theorem onCst_E {v : EV} {x : V} (rx : R X ρ m H v x) {k : Nat → RE} (q : PostE X CV W σ ρ1 m1 H1 (onCst .bad k v) K) : ∃ i, v = .cst i ∧ x = X.cv i ∧ PostE X CV W σ ρ1 m1 H1 (k i) K := onCst_of (d := .bad) (P := fun r => PostE X CV W σ ρ1 m1 H1 r K) (fun z => z) rx q
theorem onBl_E' {v : EV} {k : Bool → RE} (q : PostE X CV W σ ρ1 m1 H1 (onBl .bad k v) K) : ∃ i, v = .bl i ∧ PostE X CV W σ ρ1 m1 H1 (k i) K := onBl_of' (d := .bad) (P := fun r => PostE X CV W σ ρ1 m1 H1 r K) (fun z => z) q
theorem onStr_E {v : EV} {x : V} (rx : R X ρ m H v x) {k : EV → RE} (q : PostE X CV W σ ρ1 m1 H1 (onStr .bad k v) K) : ∃ s l, v = .str s ∧ cdx s = some l ∧ x = .str ⟨l.toArray⟩ ∧ PostE X CV W σ ρ1 m1 H1 (k s) K := onStr_of (d := .bad) (P := fun r => PostE X CV W σ ρ1 m1 H1 r K) (fun z => z) rx q
theorem onTup_E {v : EV} {x : V} (rx : R X ρ m H v x) {k : EV → RE} (q : PostE X CV W σ ρ1 m1 H1 (onTup .bad k v) K) : ∃ xs a vs, v = .tup xs ∧ x = .ref a ∧ H a = some (.tup vs) ∧ Off ρ m a ∧ RL X ρ m H xs vs ∧ PostE X CV W σ ρ1 m1 H1 (k xs) K := onTup_of (d := .bad) (P := fun r => PostE X CV W σ ρ1 m1 H1 r K) (fun z => z) rx q
theorem onCons_E {v : EV} {xs : List V} (rx : RL X ρ m H v xs) {k : EV → EV → RE} (q : PostE X CV W σ ρ1 m1 H1 (onCons .bad k v) K) : ∃ a r x t, v = .cons a r ∧ xs = x :: t ∧ R X ρ m H a x ∧ RL X ρ m H r t ∧ PostE X CV W σ ρ1 m1 H1 (k a r) K := onCons_of (d := .bad) (P := fun r => PostE X CV W σ ρ1 m1 H1 r K) (fun z => z) rx q
theorem onNil_E {v : EV} {xs : List V} (rx : RL X ρ m H v xs) {k : RE} (q : PostE X CV W σ ρ1 m1 H1 (onNil .bad k v) K) : v = .nil ∧ xs = [] ∧ PostE X CV W σ ρ1 m1 H1 (k) K := onNil_of (d := .bad) (P := fun r => PostE X CV W σ ρ1 m1 H1 r K) (fun z => z) rx q
theorem onLst_E (s : S X ρ m h H) {i : Nat} (hi : i < m) {k : EV → RE} (q : PostE X CV W σ ρ1 m1 H1 (onLst .bad k (tget h i)) K) : ∃ xs vs, tget h i = some (.lst xs) ∧ H (ρ i) = some (.lst vs) ∧ RL X ρ m H xs vs ∧ PostE X CV W σ ρ1 m1 H1 (k xs) K := onLst_of (d := .bad) (P := fun r => PostE X CV W σ ρ1 m1 H1 r K) (fun z => z) s hi q
theorem onDct_E (s : S X ρ m h H) {i : Nat} (hi : i < m) {k : EV → RE} (q : PostE X CV W σ ρ1 m1 H1 (onDct .bad k (tget h i)) K) : ∃ xs es, tget h i = some (.dct xs) ∧ H (ρ i) = some (.dK es) ∧ RD X ρ m H xs es ∧ PostE X CV W σ ρ1 m1 H1 (k xs) K := onDct_of (d := .bad) (P := fun r => PostE X CV W σ ρ1 m1 H1 r K) (fun z => z) s hi q
theorem onIns_E (s : S X ρ m h H) {i : Nat} (hi : i < m) {k : Nat → EV → RE} (q : PostE X CV W σ ρ1 m1 H1 (onIns .bad k (tget h i)) K) : ∃ c fs dx vf, tget h i = some (.ins c fs) ∧ H (ρ i) = some (.ins (X.ca c) dx vf) ∧ RF X ρ m H fs vf ∧ PostE X CV W σ ρ1 m1 H1 (k c fs) K := onIns_of (d := .bad) (P := fun r => PostE X CV W σ ρ1 m1 H1 r K) (fun z => z) s hi q
theorem bcase_E {b : Bool} {A B : RE} (q : PostE X CV W σ ρ1 m1 H1 (Bool.rec (motive := fun _ => RE) A B b) K) : (b = false ∧ PostE X CV W σ ρ1 m1 H1 A K) ∨ (b = true ∧ PostE X CV W σ ρ1 m1 H1 B K) := bcase (P := fun r => PostE X CV W σ ρ1 m1 H1 r K) q
theorem bok_E {b : Bool} {B : RE} (q : PostE X CV W σ ρ1 m1 H1 (Bool.rec (motive := fun _ => RE) .bad B b) K) : b = true ∧ PostE X CV W σ ρ1 m1 H1 B K := (bcase_E q).elim (fun z => (show False from z.2).elim) id
theorem onInt_S {v : EV} {x : V} (rx : R X ρ m H v x) {k : Int → RS} (q : PostS X CV W ρ1 m1 H1 (onInt .bad k v) D) : ∃ i, v = .int i ∧ x = .int i ∧ PostS X CV W ρ1 m1 H1 (k i) D := onInt_of (d := .bad) (P := fun r => PostS X CV W ρ1 m1 H1 r D) (fun z => z) rx q
theorem onBl_S {v : EV} {x : V} (rx : R X ρ m H v x) {k : Bool → RS} (q : PostS X CV W ρ1 m1 H1 (onBl .bad k v) D) : ∃ i, v = .bl i ∧ x = .bl i ∧ PostS X CV W ρ1 m1 H1 (k i) D := onBl_of (d := .bad) (P := fun r => PostS X CV W ρ1 m1 H1 r D) (fun z => z) rx q
theorem onRef_S {v : EV} {x : V} (rx : R X ρ m H v x) {k : Nat → RS} (q : PostS X CV W ρ1 m1 H1 (onRef .bad k v) D) : ∃ i, v = .ref i ∧ i < m ∧ x = .ref (ρ i) ∧ PostS X CV W ρ1 m1 H1 (k i) D := onRef_of (d := .bad) (P := fun r => PostS X CV W ρ1 m1 H1 r D) (fun z => z) rx q
theorem onCst_S {v : EV} {x : V} (rx : R X ρ m H v x) {k : Nat → RS} (q : PostS X CV W ρ1 m1 H1 (onCst .bad k v) D) : ∃ i, v = .cst i ∧ x = X.cv i ∧ PostS X CV W ρ1 m1 H1 (k i) D := onCst_of (d := .bad) (P := fun r => PostS X CV W ρ1 m1 H1 r D) (fun z => z) rx q
theorem onBl_S' {v : EV} {k : Bool → RS} (q : PostS X CV W ρ1 m1 H1 (onBl .bad k v) D) : ∃ i, v = .bl i ∧ PostS X CV W ρ1 m1 H1 (k i) D := onBl_of' (d := .bad) (P := fun r => PostS X CV W ρ1 m1 H1 r D) (fun z => z) q
theorem onStr_S {v : EV} {x : V} (rx : R X ρ m H v x) {k : EV → RS} (q : PostS X CV W ρ1 m1 H1 (onStr .bad k v) D) : ∃ s l, v = .str s ∧ cdx s = some l ∧ x = .str ⟨l.toArray⟩ ∧ PostS X CV W ρ1 m1 H1 (k s) D := onStr_of (d := .bad) (P := fun r => PostS X CV W ρ1 m1 H1 r D) (fun z => z) rx q
theorem onTup_S {v : EV} {x : V} (rx : R X ρ m H v x) {k : EV → RS} (q : PostS X CV W ρ1 m1 H1 (onTup .bad k v) D) : ∃ xs a vs, v = .tup xs ∧ x = .ref a ∧ H a = some (.tup vs) ∧ Off ρ m a ∧ RL X ρ m H xs vs ∧ PostS X CV W ρ1 m1 H1 (k xs) D := onTup_of (d := .bad) (P := fun r => PostS X CV W ρ1 m1 H1 r D) (fun z => z) rx q
theorem onCons_S {v : EV} {xs : List V} (rx : RL X ρ m H v xs) {k : EV → EV → RS} (q : PostS X CV W ρ1 m1 H1 (onCons .bad k v) D) : ∃ a r x t, v = .cons a r ∧ xs = x :: t ∧ R X ρ m H a x ∧ RL X ρ m H r t ∧ PostS X CV W ρ1 m1 H1 (k a r) D := onCons_of (d := .bad) (P := fun r => PostS X CV W ρ1 m1 H1 r D) (fun z => z) rx q
theorem onNil_S {v : EV} {xs : List V} (rx : RL X ρ m H v xs) {k : RS} (q : PostS X CV W ρ1 m1 H1 (onNil .bad k v) D) : v = .nil ∧ xs = [] ∧ PostS X CV W ρ1 m1 H1 (k) D := onNil_of (d := .bad) (P := fun r => PostS X CV W ρ1 m1 H1 r D) (fun z => z) rx q
theorem onLst_S (s : S X ρ m h H) {i : Nat} (hi : i < m) {k : EV → RS} (q : PostS X CV W ρ1 m1 H1 (onLst .bad k (tget h i)) D) : ∃ xs vs, tget h i = some (.lst xs) ∧ H (ρ i) = some (.lst vs) ∧ RL X ρ m H xs vs ∧ PostS X CV W ρ1 m1 H1 (k xs) D := onLst_of (d := .bad) (P := fun r => PostS X CV W ρ1 m1 H1 r D) (fun z => z) s hi q
theorem onDct_S (s : S X ρ m h H) {i : Nat} (hi : i < m) {k : EV → RS} (q : PostS X CV W ρ1 m1 H1 (onDct .bad k (tget h i)) D) : ∃ xs es, tget h i = some (.dct xs) ∧ H (ρ i) = some (.dK es) ∧ RD X ρ m H xs es ∧ PostS X CV W ρ1 m1 H1 (k xs) D := onDct_of (d := .bad) (P := fun r => PostS X CV W ρ1 m1 H1 r D) (fun z => z) s hi q
theorem onIns_S (s : S X ρ m h H) {i : Nat} (hi : i < m) {k : Nat → EV → RS} (q : PostS X CV W ρ1 m1 H1 (onIns .bad k (tget h i)) D) : ∃ c fs dx vf, tget h i = some (.ins c fs) ∧ H (ρ i) = some (.ins (X.ca c) dx vf) ∧ RF X ρ m H fs vf ∧ PostS X CV W ρ1 m1 H1 (k c fs) D := onIns_of (d := .bad) (P := fun r => PostS X CV W ρ1 m1 H1 r D) (fun z => z) s hi q
theorem bcase_S {b : Bool} {A B : RS} (q : PostS X CV W ρ1 m1 H1 (Bool.rec (motive := fun _ => RS) A B b) D) : (b = false ∧ PostS X CV W ρ1 m1 H1 A D) ∨ (b = true ∧ PostS X CV W ρ1 m1 H1 B D) := bcase (P := fun r => PostS X CV W ρ1 m1 H1 r D) q
theorem bok_S {b : Bool} {B : RS} (q : PostS X CV W ρ1 m1 H1 (Bool.rec (motive := fun _ => RS) .bad B b) D) : b = true ∧ PostS X CV W ρ1 m1 H1 B D := (bcase_S q).elim (fun z => (show False from z.2).elim) id
theorem lenOk_E {xs : EV} {vs : List V} {r : RE} (rl : RL X ρ m H xs vs) (p : PostE X CV W σ ρ1 m1 H1 (lenOk xs r) K) : vs.length ≤ 16000000 ∧ PostE X CV W σ ρ1 m1 H1 r K := lenOk_of (P := fun r => PostE X CV W σ ρ1 m1 H1 r K) (fun z => z) rl p
theorem seqK_E {kL kT : EV → RE} {v : EV} {x : V} (s : S X ρ m h H) (rx : R X ρ m H v x) (p : PostE X CV W σ ρ1 m1 H1 (seqK kL kT v h) K) :
    ∃ a vs e, x = .ref a ∧ RL X ρ m H e vs ∧ ((H a = some (.lst vs) ∧ (∃ i, v = .ref i ∧ i < m ∧ a = ρ i) ∧ PostE X CV W σ ρ1 m1 H1 (kL e) K) ∨ (H a = some (.tup vs) ∧ v = .tup e ∧ Off ρ m a ∧ PostE X CV W σ ρ1 m1 H1 (kT e) K)) := seqK_of (P := fun r => PostE X CV W σ ρ1 m1 H1 r K) (fun z => z) s rx p
end
end Dz

namespace Dz
open PySem L2

/-! ### the text's shapes: what is asked of an expression's form -/
def plainE : Expr → Bool
  | .Starred _ _ => false
  | _ => true
theorem star_plain {e : Expr} {es : List Expr} {env : Env} (h : plainE e = true) : starEach (e :: es) env = (false, eval e env) :: starEach es env := by
  cases e <;> first | rfl | cases h
theorem any_plain {pos : Pos} {env : Env} : ∀ {es : List Expr}, es.all plainE = true → (backTo pos (starEach es env)).any (·.1) = false
  | [], _ => rfl
  | e :: es, h => by
    obtain ⟨h1, h2⟩ := Bool.and_eq_true_iff.mp (show (plainE e && es.all plainE) = true from h)
    rw [star_plain h1]
    show (false || (backTo pos (starEach es env)).any (·.1)) = false
    rw [any_plain h2]; rfl
/-- its truth is its value's -/
def truE : Expr → Bool
  | .UnaryOp .Not _ _ => false
  | .BoolOp _ _ _ => false
  | .IfExp _ _ _ _ => false
  | .Compare _ _ _ _ => false
  | _ => true
theorem tru_plain {e : Expr} {env : Env} (h : truE e = true) (whole : Sem Value) : isTrue e env whole = (do let v ← whole; standAt e.pos; holding [v] (truthy v)) := by
  cases e with
  | UnaryOp op x p => cases op <;> first | rfl | cases h
  | _ => first | rfl | cases h
def setE : Expr → Bool
  | .Set _ _ _ => false
  | _ => true
theorem fold_plain {e : Expr} {env : Env} (h : setE e = true) (x : Value) : foldedSetIterable e env x = pure x := by
  cases e <;> first | rfl | cases h
def compE : Expr → Bool
  | .ListComp _ _ _ _ => false
  | .SetComp _ _ _ _ => false
  | .DictComp _ _ _ _ _ => false
  | _ => true
theorem swaps_plain {e : Expr} {t : Option Expr} {l : Nat} {env : Env} (h : compE e = true) : swapsWith e t l env = pure false := by
  cases e <;> first | rfl | cases h
def superE : Expr → Bool
  | .Call (.Name id _) [] [] _ => id != "super"
  | _ => true
theorem base_plain {e : Expr} {f : Str} {env : Env} {t : Sem Value} (h : superE e = true) : attributeBase e f env t = t := by
  unfold attributeBase
  split
  · rename_i id p pos
    have h' : (id != "super") = true := h
    rw [h']; rfl
  · rfl

/-! ### combinators -/
noncomputable def eVar (i : Nat) : CE := fun l h m => lgetK l i fun x => .ok x h m
noncomputable def eCon (v : EV) : CE := fun _ h m => .ok v h m
noncomputable def eNil : CE := fun _ h m => .ok .nil h m
noncomputable def eCons (a b : CE) : CE := fun l h m => bindE (a l h m) fun x h m => bindE (b l h m) fun xs h m => .ok (.cons x xs) h m
noncomputable def eStar (a b : CE) : CE := fun l h m => bindE (a l h m) fun x h m => seqK (fun e => bindE (b l h m) fun xs h m => appK xs e fun z => .ok z h m) (fun e => bindE (b l h m) fun xs h m => appK xs e fun z => .ok z h m) x h
noncomputable def eTup (a : CE) : CE := fun l h m => bindE (a l h m) fun xs h m => lenOk xs (.ok (.tup xs) h m)
noncomputable def eLst (a : CE) : CE := fun l h m => bindE (a l h m) fun xs h m => lenOk xs (newK (.lst xs) h m)
noncomputable def eOp (f : EV → EV → Tr → Nat → RE) (a b : CE) : CE := fun l h m => bindE (a l h m) fun x h m => bindE (b l h m) fun y h m => f x y h m
noncomputable def eUn (f : EV → Tr → Nat → RE) (a : CE) : CE := fun l h m => bindE (a l h m) fun x h m => f x h m
noncomputable def eChain (f g : EV → EV → Tr → Nat → RE) (a b c : CE) : CE := fun l h m => bindE (a l h m) fun x h m => bindE (b l h m) fun y h m => bindE (f x y h m) fun t h m => onBl .bad (fun t => Bool.rec (motive := fun _ => RE) (.ok (.bl false) h m) (bindE (c l h m) fun z h m => g y z h m) t) t
noncomputable def eAnd (a b : CE) : CE := fun l h m => bindE (a l h m) fun x h m => onBl .bad (fun t => Bool.rec (motive := fun _ => RE) (.ok (.bl false) h m) (b l h m) t) x
noncomputable def eOr (a b : CE) : CE := fun l h m => bindE (a l h m) fun x h m => onBl .bad (fun t => Bool.rec (motive := fun _ => RE) (b l h m) (.ok (.bl true) h m) t) x
noncomputable def eNot (a : CE) : CE := fun l h m => bindE (a l h m) fun x h m => onBl .bad (fun t => Bool.rec (motive := fun _ => RE) (.ok (.bl true) h m) (.ok (.bl false) h m) t) x
noncomputable def eIf (c a b : CE) : CE := fun l h m => bindE (c l h m) fun x h m => onBl .bad (fun t => Bool.rec (motive := fun _ => RE) (b l h m) (a l h m) t) x
section
variable {X : Cx} {t t' : TE} {e : Expr}
theorem pe_mono (h : PE X e t) (k : ∀ σ H Q, t' σ H Q → t σ H Q) : PE X e t' := ⟨fun pins s σ H Q I q => h.run pins s σ H Q I (k σ H Q q)⟩
theorem pt_mono {t t' : TT} (h : PT X e t) (k : ∀ σ H Q, t' σ H Q → t σ H Q) : PT X e t' := ⟨fun pins s σ H Q I q => h.run pins s σ H Q I (k σ H Q q)⟩
theorem pw_mono {t t' : TT} (h : PW X e t) (k : ∀ σ H Q, t' σ H Q → t σ H Q) : PW X e t' := ⟨fun w pins s σ H Q I q => h.run w pins s σ H Q I (k σ H Q q)⟩
theorem pa_mono {t t' : TA} {es : List Expr} (h : PA X es t) (k : ∀ σ H Q, t' σ H Q → t σ H Q) : PA X es t' := ⟨fun pos pins s σ H Q I q => h.run pos pins s σ H Q I (k σ H Q q)⟩
theorem ps_mono {t t' : TS} {st : Stmt} (h : PS X st t) (k : ∀ D σ H, t' D σ H → t D σ H) : PS X st t' := ⟨fun pins s σ H D I q => h.run pins s σ H D I (k D σ H q)⟩
theorem pss_mono {t t' : TS} {st : List Stmt} (h : PSs X st t) (k : ∀ D σ H, t' D σ H → t D σ H) : PSs X st t' := ⟨fun pins s σ H D I q => h.run pins s σ H D I (k D σ H q)⟩
theorem pi_mono {w w' : TI} {tg iter : Expr} (h : PI X tg iter w) (k : ∀ σ H Rr, w' σ H Rr → w σ H Rr) : PI X tg iter w' := ⟨fun pins s σ H Rr I q => h.run pins s σ H Rr I (k σ H Rr q)⟩
theorem pe_either {t1 t2 : TE} (h1 : PE X e t1) (h2 : PE X e t2) : PE X e (fun σ H Q => t1 σ H Q ∨ t2 σ H Q) := ⟨fun pins s σ H Q I q => q.elim (h1.run pins s σ H Q I) (h2.run pins s σ H Q I)⟩
theorem pi_either {w1 w2 : TI} {tg iter : Expr} (h1 : PI X tg iter w1) (h2 : PI X tg iter w2) : PI X tg iter (fun σ H Rr => w1 σ H Rr ∨ w2 σ H Rr) := ⟨fun pins s σ H Rr I q => q.elim (h1.run pins s σ H Rr I) (h2.run pins s σ H Rr I)⟩
end
theorem callR_or {X : Cx} {f : Value} {r r' : List V → Hp → VK → Prop} (h : CallR X f r) (h' : CallR X f r') : CallR X f (fun xs H Q => r xs H Q ∨ r' xs H Q) := fun pins s σ H xs us Q I rx q => q.elim (h pins s σ H xs us Q I rx) (h' pins s σ H xs us Q I rx)
section
variable (Y : Fix) (CV : Nat → Value) (W : WX)
def Op1 (f : EV → Tr → Nat → RE) (r : V → Hp → VK → Prop) : Prop := ∀ (σ : L2.St) (ρ : Pl) (m : Nat) (h : Tr) (H : Hp) (v : EV) (x : V) (Q : VK), S Y ρ m h H → R Y ρ m H v x →
  PostE Y CV W σ ρ m H (f v h m) (fun ρ' m' _ H' z => ∀ u, R Y ρ' m' H' z u → Q u H') → r x H Q
def Op2 (f : EV → EV → Tr → Nat → RE) (r : R2) : Prop := ∀ (σ : L2.St) (ρ : Pl) (m : Nat) (h : Tr) (H : Hp) (v w : EV) (x y : V) (Q : VK), S Y ρ m h H → R Y ρ m H v x → R Y ρ m H w y →
  PostE Y CV W σ ρ m H (f v w h m) (fun ρ' m' _ H' z => ∀ u, R Y ρ' m' H' z u → Q u H') → r x y H Q
def OpN (f : EV → Tr → Nat → RE) (r : List V → Hp → VK → Prop) : Prop := ∀ (σ : L2.St) (ρ : Pl) (m : Nat) (h : Tr) (H : Hp) (v : EV) (xs : List V) (Q : VK), S Y ρ m h H → RL Y ρ m H v xs →
  PostE Y CV W σ ρ m H (f v h m) (fun ρ' m' _ H' z => ∀ u, R Y ρ' m' H' z u → Q u H') → r xs H Q
end
section
variable {Y : Fix} {X : Cx} {CV : Nat → Value} {W : WX} {a b c : CE} {ea eb ec : Expr} {es : List Expr} {pos : Pos}
theorem de_var (i : Nat) {e : Expr} (h : PE X e (tVar i)) : PE X e (tE Y CV W (eVar i)) := pe_mono h fun σ H Q ⟨l, h, m, ρ, s, lr, p⟩ => by
  have p' : PostE Y CV W σ ρ m H (lgetK l i fun x => .ok x h m) _ := p
  rcases lgetK_eq l i (fun x => .ok x h m) with ⟨x, e, q⟩ | q
  · obtain ⟨v, e2, r⟩ := lr.get i x e
    rw [q] at p'
    exact ⟨v, e2, post_ok s p' v r⟩
  · rw [q] at p'; exact p'.elim
theorem de_con {v : EV} {x : V} {e : Expr} (h : PE X e (tC x)) (hr : ∀ ρ m H, R Y ρ m H v x) : PE X e (tE Y CV W (eCon v)) := pe_mono h fun σ H Q ⟨l, h, m, ρ, s, lr, p⟩ => post_ok s p x (hr _ _ _)
theorem da_nil : PA X [] (tA Y CV W eNil) := pa_mono pa_nil fun σ H Q ⟨l, h, m, ρ, s, lr, p⟩ => post_ok s p [] rfl
theorem da_cons (ha : PE X ea (tE Y CV W a)) (hb : PA X es (tA Y CV W b)) (hs : starEach (ea :: es) X.env = (false, eval ea X.env) :: starEach es X.env) : PA X (ea :: es) (tA Y CV W (eCons a b)) :=
  pa_mono (pa_cons ha hb hs) fun σ H Q ⟨l, h, m, ρ, s, lr, p⟩ => ⟨l, h, m, ρ, s, lr, PostE.mono (PostE.bind p) fun g1 m1 h1 H1 v e1 s1 p1 x rx =>
    ⟨l, h1, m1, g1, s1, lr.mono e1, PostE.mono (PostE.bind p1) fun g2 m2 h2 H2 w e2 s2 p2 xs rxs => post_ok s2 p2 (x :: xs) ⟨x, xs, rfl, rx.mono e2, rxs⟩⟩⟩
theorem da_star {p : Pos} (ha : PE X ea (tE Y CV W a)) (hb : PA X es (tA Y CV W b)) : PA X (.Starred ea p :: es) (tA Y CV W (eStar a b)) := by
  refine pa_mono (StX.pa_star ha hb rfl) fun σ H Q ⟨l, h, m, ρ, s, lr, p⟩ => ⟨l, h, m, ρ, s, lr, PostE.mono (PostE.bind p) fun g1 m1 h1 H1 v e1 s1 p1 x rx => ?_⟩
  obtain ⟨a1, vs, ev, ex, rl, q⟩ := seqK_E s1 rx p1
  have fin : PostE Y CV W σ g1 m1 H1 (bindE (b l h1 m1) fun xs h m => appK xs ev fun z => .ok z h m) (fun g' m' _ H' v => ∀ xs, RL Y g' m' H' v xs → Q xs H') → tA Y CV W b σ H1 (fun ys H2 => Q (vs ++ ys) H2) := fun q =>
    ⟨l, h1, m1, g1, s1, lr.mono e1, PostE.mono (PostE.bind q) fun g2 m2 h2 H2 w e2 s2 p2 ys ry => by
      obtain ⟨z, ez, rz⟩ := appK_RL (α := RE) ry ev vs (rl.mono e2) (fun z => .ok z h2 m2)
      rw [ez] at p2
      exact post_ok s2 p2 _ rz⟩
  rcases q with ⟨q1, _, q2⟩ | ⟨q1, _, _, q2⟩
  · exact ⟨a1, vs, ex, .inr (SqL.of q1), fin q2⟩
  · exact ⟨a1, vs, ex, .inl (SqT.of q1), fin q2⟩
theorem de_tup {x1} (ha : PA X es (tA Y CV W a)) : PE X (.Tuple es x1 pos) (tE Y CV W (eTup a)) := pe_mono (pe_tup ha) fun σ H Q ⟨l, h, m, ρ, s, lr, p⟩ => ⟨l, h, m, ρ, s, lr, PostE.mono (PostE.bind p) fun g1 m1 h1 H1 v e1 s1 p1 xs rx => by
  obtain ⟨z, q⟩ := lenOk_E rx p1
  exact ⟨Nat.le_of_lt (small16 z), fun p hp => post_new s1 hp q _ (R.tup s1 hp rx)⟩⟩
/-- a new list of the store -/
theorem new_list {σ : L2.St} {ρ : Pl} {m : Nat} {h : Tr} {H : Hp} {xs : EV} {vs : List V} {p : Addr} {Q : VK} (s : S Y ρ m h H) (rx : RL Y ρ m H xs vs) (hp : H p = none)
    (q : PostE Y CV W σ ρ m H (newK (.lst xs) h m) (fun ρ' m' _ H' v => ∀ x, R Y ρ' m' H' v x → Q x H')) : Q (.ref p) (upd H p (.lst vs)) := by
  obtain ⟨h', k, s', r⟩ := newK_of (o := .lst xs) (ho := .lst vs) s hp ⟨vs, upd_same, RL.mono (more_ext hp) rx⟩ q
  exact k _ r
theorem de_lst (ha : PA X es (tA Y CV W a)) : PE X (.List es pos) (tE Y CV W (eLst a)) := pe_mono (pe_lst ha) fun σ H Q ⟨l, h, m, ρ, s, lr, p⟩ => ⟨l, h, m, ρ, s, lr, PostE.mono (PostE.bind p) fun g1 m1 h1 H1 v e1 s1 p1 xs rx => by
  obtain ⟨z, q⟩ := lenOk_E rx p1
  exact ⟨Nat.le_of_lt (small16 z), fun p hp => new_list s1 rx hp q⟩⟩
/-- two operands -/
theorem te_op {f : EV → EV → Tr → Nat → RE} {r : R2} (ho : Op2 Y CV W f r) {σ : L2.St} {H : Hp} {Q : VK} (t : tE Y CV W (eOp f a b) σ H Q) : tOp r (tE Y CV W a) (tE Y CV W b) σ H Q := by
  obtain ⟨l, h, m, ρ, s, lr, p⟩ := t
  exact ⟨l, h, m, ρ, s, lr, PostE.mono (PostE.bind p) fun g1 m1 h1 H1 v e1 s1 p1 x rx => ⟨l, h1, m1, g1, s1, lr.mono e1, PostE.mono (PostE.bind p1) fun g2 m2 h2 H2 w e2 s2 p2 y ry =>
    ho σ g2 m2 h2 H2 v w x y Q s2 (rx.mono e2) ry p2⟩⟩
theorem te_un {f : EV → Tr → Nat → RE} {r : V → Hp → VK → Prop} (ho : Op1 Y CV W f r) {σ : L2.St} {H : Hp} {Q : VK} (t : tE Y CV W (eUn f a) σ H Q) : tE Y CV W a σ H (fun x H1 => r x H1 Q) := by
  obtain ⟨l, h, m, ρ, s, lr, p⟩ := t
  exact ⟨l, h, m, ρ, s, lr, PostE.mono (PostE.bind p) fun g1 m1 h1 H1 v e1 s1 p1 x rx => ho σ g1 m1 h1 H1 v x Q s1 rx p1⟩
theorem ta_n {f : EV → Tr → Nat → RE} {r : List V → Hp → VK → Prop} (ho : OpN Y CV W f r) {σ : L2.St} {H : Hp} {Q : VK} (t : tE Y CV W (eUn f a) σ H Q) : tA Y CV W a σ H (fun x H1 => r x H1 Q) := by
  obtain ⟨l, h, m, ρ, s, lr, p⟩ := t
  exact ⟨l, h, m, ρ, s, lr, PostE.mono (PostE.bind p) fun g1 m1 h1 H1 v e1 s1 p1 x rx => ho σ g1 m1 h1 H1 v x Q s1 rx p1⟩
theorem de_bin {op : Operator} {f : EV → EV → Tr → Nat → RE} {r : R2} (ho : OpR X (binaryOp op) r) (hf : Op2 Y CV W f r) (ha : PE X ea (tE Y CV W a)) (hb : PE X eb (tE Y CV W b)) : PE X (.BinOp ea op eb pos) (tE Y CV W (eOp f a b)) := pe_mono (pe_op ho ha hb) fun _ _ _ => te_op hf
theorem de_un {op : UnaryOp} {f : EV → Tr → Nat → RE} {r : V → Hp → VK → Prop} (ho : UnR X (unaryOp op) r) (hf : Op1 Y CV W f r) (ha : PE X ea (tE Y CV W a)) : PE X (.UnaryOp op ea pos) (tE Y CV W (eUn f a)) := pe_mono (pe_un ho ha) fun _ _ _ => te_un hf
theorem de_cmp {op : CmpOp} {f : EV → EV → Tr → Nat → RE} {r : R2} (ho : OpR X (compareOp op) r) (hf : Op2 Y CV W f r) (ha : PE X ea (tE Y CV W a)) (hb : PE X eb (tE Y CV W b)) (hm : behindInMarks op eb = false) : PE X (.Compare ea [op] [eb] pos) (tE Y CV W (eOp f a b)) := pe_mono (pe_cmpR ho ha hb hm) fun _ _ _ => te_op hf
theorem de_ix {f : EV → EV → Tr → Nat → RE} {r : R2} (ho : IxR X r) (hf : Op2 Y CV W f r) (ha : PE X ea (tE Y CV W a)) (hb : PE X eb (tE Y CV W b)) (hs : PlainIx eb) : PE X (.Subscript ea eb pos) (tE Y CV W (eOp f a b)) := pe_mono (pe_ix ho ha hb hs) fun _ _ _ => te_op hf
theorem te_chain {f g : EV → EV → Tr → Nat → RE} {r r' : R2} (ho : Op2 Y CV W f r) (ho' : Op2 Y CV W g r') {σ : L2.St} {H : Hp} {Q : VK} (t : tE Y CV W (eChain f g a b c) σ H Q) : tChain r r' (tE Y CV W a) (tE Y CV W b) (tE Y CV W c) σ H Q := by
  obtain ⟨l, h, m, ρ, s, lr, p⟩ := t
  refine ⟨l, h, m, ρ, s, lr, PostE.mono (PostE.bind p) fun g1 m1 h1 H1 v e1 s1 p1 x rx => ⟨l, h1, m1, g1, s1, lr.mono e1, PostE.mono (PostE.bind p1) fun g2 m2 h2 H2 w e2 s2 p2 y ry => ?_⟩⟩
  refine ho σ g2 m2 h2 H2 v w x y _ s2 (rx.mono e2) ry (PostE.mono (PostE.bind p2) fun g3 m3 h3 H3 z e3 s3 p3 u ru => ?_)
  obtain ⟨k, _, ex, q⟩ := onBl_E ru p3
  refine ⟨k, ex, ?_⟩
  cases k with
  | true => exact ⟨l, h3, m3, g3, s3, ((lr.mono e1).mono e2).mono e3, PostE.mono (PostE.bind q) fun g4 m4 h4 H4 w4 e4 s4 p4 y4 ry4 => ho' σ g4 m4 h4 H4 w w4 y y4 Q s4 ((ry.mono e3).mono e4) ry4 p4⟩
  | false => exact post_ok s3 q _ rfl
theorem de_chain {op op' : CmpOp} {f g : EV → EV → Tr → Nat → RE} {r r' : R2} (ho : OpR X (compareOp op) r) (ho' : OpR X (compareOp op') r') (hf : Op2 Y CV W f r) (hg : Op2 Y CV W g r') (ha : PE X ea (tE Y CV W a)) (hb : PE X eb (tE Y CV W b)) (hc : PE X ec (tE Y CV W c))
    (hm : lastMarks [op, op'] [eb, ec] = false) : PE X (.Compare ea [op, op'] [eb, ec] pos) (tE Y CV W (eChain f g a b c)) := pe_mono (pe_chain ho ho' ha hb hc hm) fun _ _ _ => te_chain hf hg
/-- and, or, not of truth values -/
theorem de_and {rest : List Expr} (ha : PE X ea (tE Y CV W a)) (hb : PE X (.BoolOp .And (eb :: rest) pos) (tE Y CV W b)) : PE X (.BoolOp .And (ea :: eb :: rest) pos) (tE Y CV W (eAnd a b)) := pe_mono (pe_and ha hb) fun σ H Q ⟨l, h, m, ρ, s, lr, p⟩ =>
  ⟨l, h, m, ρ, s, lr, PostE.mono (PostE.bind p) fun g1 m1 h1 H1 v e1 s1 p1 x rx => by
    obtain ⟨k, _, ex, q⟩ := onBl_E rx p1
    refine ⟨k, ex, ?_⟩
    cases k with
    | true => exact ⟨l, h1, m1, g1, s1, lr.mono e1, q⟩
    | false => exact post_ok s1 q _ rfl⟩
theorem de_or {rest : List Expr} (ha : PE X ea (tE Y CV W a)) (hb : PE X (.BoolOp .Or (eb :: rest) pos) (tE Y CV W b)) : PE X (.BoolOp .Or (ea :: eb :: rest) pos) (tE Y CV W (eOr a b)) := pe_mono (pe_or ha hb) fun σ H Q ⟨l, h, m, ρ, s, lr, p⟩ =>
  ⟨l, h, m, ρ, s, lr, PostE.mono (PostE.bind p) fun g1 m1 h1 H1 v e1 s1 p1 x rx => by
    obtain ⟨k, _, ex, q⟩ := onBl_E rx p1
    refine ⟨k, ex, ?_⟩
    cases k with
    | true => exact post_ok s1 q _ rfl
    | false => exact ⟨l, h1, m1, g1, s1, lr.mono e1, q⟩⟩
theorem de_one {op} (ha : PE X ea (tE Y CV W a)) : PE X (.BoolOp op [ea] pos) (tE Y CV W a) := pe_one ha
theorem de_not (ha : PE X ea (tE Y CV W a)) : PE X (.UnaryOp .Not ea pos) (tE Y CV W (eNot a)) := pe_mono (pe_not ha) fun σ H Q ⟨l, h, m, ρ, s, lr, p⟩ =>
  ⟨l, h, m, ρ, s, lr, PostE.mono (PostE.bind p) fun g1 m1 h1 H1 v e1 s1 p1 x rx => by
    obtain ⟨k, _, ex, q⟩ := onBl_E rx p1
    refine ⟨k, ex, ?_⟩
    cases k with
    | true => exact post_ok s1 q _ rfl
    | false => exact post_ok s1 q _ rfl⟩
/-! tests -/
theorem dt_val (ha : PE X ea (tE Y CV W a)) (he : ∀ whole, isTrue ea X.env whole = (do let v ← whole; standAt ea.pos; holding [v] (truthy v))) : PT X ea (tT Y CV W a) := pt_mono (pt_val ha he) fun σ H Q ⟨l, h, m, ρ, s, lr, p⟩ =>
  ⟨l, h, m, ρ, s, lr, PostE.mono p fun g1 m1 h1 H1 v e1 s1 p1 x rx => by
    obtain ⟨b, rfl, q⟩ := p1
    exact ⟨b, rx, q⟩⟩
theorem tt_op {f : EV → EV → Tr → Nat → RE} {r : R2} (ho : Op2 Y CV W f r) {σ : L2.St} {H : Hp} {Q : Bool → Hp → Prop} (t : tT Y CV W (eOp f a b) σ H Q) : tTest (tOp r (tE Y CV W a) (tE Y CV W b)) σ H Q := by
  obtain ⟨l, h, m, ρ, s, lr, p⟩ := t
  exact te_op ho ⟨l, h, m, ρ, s, lr, PostE.mono p fun g1 m1 h1 H1 v e1 s1 p1 x rx => by
    obtain ⟨b, rfl, q⟩ := p1
    exact ⟨b, rx, q⟩⟩
theorem dt_cmp {op : CmpOp} {f : EV → EV → Tr → Nat → RE} {r : R2} (ho : OpR X (compareOp op) r) (hf : Op2 Y CV W f r) (ha : PE X ea (tE Y CV W a)) (hb : PE X eb (tE Y CV W b)) (hm : behindInMarks op eb = false) : PT X (.Compare ea [op] [eb] pos) (tT Y CV W (eOp f a b)) := pt_mono (pt_cmpR ho ha hb hm) fun _ _ _ => tt_op hf
theorem dt_chain {op op' : CmpOp} {f g : EV → EV → Tr → Nat → RE} {r r' : R2} (ho : OpR X (compareOp op) r) (ho' : OpR X (compareOp op') r') (hf : Op2 Y CV W f r) (hg : Op2 Y CV W g r') (ha : PE X ea (tE Y CV W a)) (hb : PE X eb (tE Y CV W b)) (hc : PE X ec (tE Y CV W c))
    (hm : lastMarks [op, op'] [eb, ec] = false) : PT X (.Compare ea [op, op'] [eb, ec] pos) (tT Y CV W (eChain f g a b c)) := pt_mono (pt_chain ho ho' ha hb hc hm) fun σ H Q ⟨l, h, m, ρ, s, lr, p⟩ =>
  te_chain hf hg ⟨l, h, m, ρ, s, lr, PostE.mono p fun g1 m1 h1 H1 v e1 s1 p1 x rx => by
    obtain ⟨b, rfl, q⟩ := p1
    exact ⟨b, rx, q⟩⟩
theorem dt_not (ha : PT X ea (tT Y CV W a)) : PT X (.UnaryOp .Not ea pos) (tT Y CV W (eNot a)) := pt_mono (pt_not ha) fun σ H Q ⟨l, h, m, ρ, s, lr, p⟩ =>
  ⟨l, h, m, ρ, s, lr, PostE.mono (PostE.bind p) fun g1 m1 h1 H1 v e1 s1 p1 => by
    obtain ⟨k, ev, q⟩ := onBl_E' p1
    refine ⟨k, ev, ?_⟩
    cases k with
    | true => obtain ⟨b, eb, q⟩ := post_ok s1 q; cases eb; exact q
    | false => obtain ⟨b, eb, q⟩ := post_ok s1 q; cases eb; exact q⟩
theorem dw_one {op} (ha : PT X ea (tT Y CV W a)) : PW X (.BoolOp op [ea] pos) (tT Y CV W a) := by
  cases op with
  | And => exact pw_and1 ha
  | Or => exact pw_or1 ha
theorem dw_and {rest : List Expr} (ha : PT X ea (tT Y CV W a)) (hb : PW X (.BoolOp .And (eb :: rest) pos) (tT Y CV W b)) : PW X (.BoolOp .And (ea :: eb :: rest) pos) (tT Y CV W (eAnd a b)) := by
  refine pw_mono (pw_and ha hb) fun σ H Q ⟨l, h, m, ρ, s, lr, p⟩ => ⟨l, h, m, ρ, s, lr, PostE.mono (PostE.bind p) fun g1 m1 h1 H1 v e1 s1 p1 => ?_⟩
  obtain ⟨k, ev, q⟩ := onBl_E' p1
  refine ⟨k, ev, ?_⟩
  cases k with
  | true => exact ⟨l, h1, m1, g1, s1, lr.mono e1, q⟩
  | false => obtain ⟨b, eb, q⟩ := post_ok s1 q; cases eb; exact q
theorem dw_or {rest : List Expr} (ha : PT X ea (tT Y CV W a)) (hb : PW X (.BoolOp .Or (eb :: rest) pos) (tT Y CV W b)) : PW X (.BoolOp .Or (ea :: eb :: rest) pos) (tT Y CV W (eOr a b)) := by
  refine pw_mono (pw_or ha hb) fun σ H Q ⟨l, h, m, ρ, s, lr, p⟩ => ⟨l, h, m, ρ, s, lr, PostE.mono (PostE.bind p) fun g1 m1 h1 H1 v e1 s1 p1 => ?_⟩
  obtain ⟨k, ev, q⟩ := onBl_E' p1
  refine ⟨k, ev, ?_⟩
  cases k with
  | true => obtain ⟨b, eb, q⟩ := post_ok s1 q; cases eb; exact q
  | false => exact ⟨l, h1, m1, g1, s1, lr.mono e1, q⟩
theorem dt_w (h : PW X ea (tT Y CV W a)) : PT X ea (tT Y CV W a) := h.pt
theorem de_if (hc : PT X ec (tT Y CV W c)) (ha : PE X ea (tE Y CV W a)) (hb : PE X eb (tE Y CV W b)) : PE X (.IfExp ec ea eb pos) (tE Y CV W (eIf c a b)) := pe_mono (pe_ifExp hc ha hb) fun σ H Q ⟨l, h, m, ρ, s, lr, p⟩ =>
  ⟨l, h, m, ρ, s, lr, PostE.mono (PostE.bind p) fun g1 m1 h1 H1 v e1 s1 p1 => by
    obtain ⟨k, ev, q⟩ := onBl_E' p1
    refine ⟨k, ev, ?_⟩
    cases k with
    | true => exact ⟨l, h1, m1, g1, s1, lr.mono e1, q⟩
    | false => exact ⟨l, h1, m1, g1, s1, lr.mono e1, q⟩⟩
/-- truth of any value -/
noncomputable def fTru : EV → Tr → Nat → RE := fun v h m => EV.rec (motive := fun _ => RE) (.ok (.bl false) h m) (fun b => .ok (.bl b) h m) (fun i => Int.rec (motive := fun _ => RE) (fun n => Nat.rec (motive := fun _ => RE) (.ok (.bl false) h m) (fun _ _ => .ok (.bl true) h m) n) (fun _ => .ok (.bl true) h m) i)
  (fun _ _ => .bad) .bad (fun _ _ _ _ => .bad) (fun xs _ => elist .bad (.ok (.bl false) h m) (fun _ _ _ => .ok (.bl true) h m) xs) (fun _ _ => .bad)
  (fun i => onLst .bad (fun xs => elist .bad (.ok (.bl false) h m) (fun _ _ _ => .ok (.bl true) h m) xs) (tget h i)) (fun _ => .bad) (fun _ => .bad) v
theorem elist_len {P : RE → Prop} {α : RE} (hb : ¬ P .bad) {ρ : Pl} {m : Nat} {H : Hp} {h : Tr} {xs : EV} {vs : List V} (rl : RL Y ρ m H xs vs) (p : P (elist .bad (.ok (.bl false) h m) (fun _ _ _ => .ok (.bl true) h m) xs)) : P (.ok (.bl (!vs.isEmpty)) h m) := by
  cases vs with
  | nil => cases rl.nil_of; exact p
  | cons x xs => obtain ⟨v, t, e, _⟩ := rl.cons_of; subst e; exact p
end
end Dz

namespace Dz
open PySem L2
/-! ### numbers -/
noncomputable def ltI (i j : Int) : Bool := Int.rec (motive := fun _ => Bool) (fun a => Int.rec (motive := fun _ => Bool) (fun b => Nat.blt a b) (fun _ => false) j) (fun a => Int.rec (motive := fun _ => Bool) (fun _ => true) (fun b => Nat.blt b a) j) i
theorem ltI_eq (i j : Int) : ltI i j = decide (i < j) := by
  cases i with
  | ofNat a =>
    cases j with
    | ofNat b =>
      show Nat.blt a b = _
      rw [Bool.eq_iff_iff, Nat.blt_eq, decide_eq_true_iff]
      exact Int.ofNat_lt.symm
    | negSucc b => exact (decide_eq_false (by intro z; have z' : (a : Int) < Int.negSucc b := z; omega)).symm
  | negSucc a =>
    cases j with
    | ofNat b => exact (decide_eq_true (by show Int.negSucc a < (b : Int); omega)).symm
    | negSucc b =>
      show Nat.blt b a = _
      rw [Bool.eq_iff_iff, Nat.blt_eq, decide_eq_true_iff]
      omega
noncomputable def eqI (i j : Int) : Bool := Int.rec (motive := fun _ => Bool) (fun a => Int.rec (motive := fun _ => Bool) (fun b => Nat.beq a b) (fun _ => false) j) (fun a => Int.rec (motive := fun _ => Bool) (fun _ => false) (fun b => Nat.beq a b) j) i
theorem eqI_eq (i j : Int) : eqI i j = (i == j) := by
  cases i with
  | ofNat a =>
    cases j with
    | ofNat b =>
      show Nat.beq a b = _
      rw [Bool.eq_iff_iff, beq_iff_eq, Nat.beq_eq]
      constructor
      · intro e; rw [e]
      · intro e; injection e
    | negSucc b => exact (beq_eq_false_iff_ne.mpr (by intro z; cases z)).symm
  | negSucc a =>
    cases j with
    | ofNat b => exact (beq_eq_false_iff_ne.mpr (by intro z; cases z)).symm
    | negSucc b =>
      show Nat.beq a b = _
      rw [Bool.eq_iff_iff, beq_iff_eq, Nat.beq_eq]
      constructor
      · intro e; rw [e]
      · intro e; injection e
noncomputable def andB (a b : Bool) : Bool := Bool.rec (motive := fun _ => Bool) false b a
theorem andB_eq (a b : Bool) : andB a b = (a && b) := by cases a <;> rfl
noncomputable def notB (a : Bool) : Bool := Bool.rec (motive := fun _ => Bool) true false a
theorem notB_eq (a : Bool) : notB a = !a := by cases a <;> rfl
/-- bits: of numbers from 0 on -/
noncomputable def fI (f : Int → Int → Int) : EV → EV → Tr → Nat → RE := fun v w h m => onInt .bad (fun i => onInt .bad (fun j => okInt (f i j) h m) w) v
noncomputable def fIc (c : Int → Int → Bool) (f : Int → Int → Int) : EV → EV → Tr → Nat → RE := fun v w h m => onInt .bad (fun i => onInt .bad (fun j => Bool.rec (motive := fun _ => RE) .bad (okInt (f i j) h m) (c i j)) w) v
noncomputable def fB (f : Int → Int → Bool) : EV → EV → Tr → Nat → RE := fun v w h m => onInt .bad (fun i => onInt .bad (fun j => okB (f i j) h m) w) v
section
variable {Y : Fix} {X : Cx} {CV : Nat → Value} {W : WX}
theorem o_int {f f' : Int → Int → Int} (e : ∀ i j, f i j = f' i j) : Op2 Y CV W (fI f) (rI0 fun i j => .int (f' i j)) := fun σ ρ m h H v w x y Q s rx ry p => by
  obtain ⟨i, rfl, rfl, p⟩ := onInt_E rx p
  obtain ⟨j, rfl, rfl, p⟩ := onInt_E ry p
  rw [okInt_eq] at p
  exact ⟨i, j, rfl, rfl, post_ok s p _ (by rw [e]; rfl)⟩
theorem o_intc {c : Int → Int → Bool} {C : Int → Int → Prop} {f f' : Int → Int → Int} (hc : ∀ i j, c i j = true → C i j) (e : ∀ i j, C i j → f i j = f' i j) : Op2 Y CV W (fIc c f) (rI C fun i j => .int (f' i j)) := fun σ ρ m h H v w x y Q s rx ry p => by
  obtain ⟨i, rfl, rfl, p⟩ := onInt_E rx p
  obtain ⟨j, rfl, rfl, p⟩ := onInt_E ry p
  obtain ⟨b, p⟩ := bok_E p
  rw [okInt_eq] at p
  exact ⟨i, j, rfl, rfl, hc i j b, post_ok s p _ (by rw [e i j (hc i j b)]; rfl)⟩
theorem o_bool {f f' : Int → Int → Bool} (e : ∀ i j, f i j = f' i j) : Op2 Y CV W (fB f) (rI0 fun i j => .bl (f' i j)) := fun σ ρ m h H v w x y Q s rx ry p => by
  obtain ⟨i, rfl, rfl, p⟩ := onInt_E rx p
  obtain ⟨j, rfl, rfl, p⟩ := onInt_E ry p
  rw [okB_eq] at p
  exact ⟨i, j, rfl, rfl, post_ok s p _ (by rw [e]; rfl)⟩
end
/-! ### data -/
theorem Dt_cons {a t : EV} {es : List PyData} (h : (Dt (.cons a t)).2 = some es) : ∃ e r, es = e :: r ∧ (Dt a).1 = some e ∧ (Dt t).2 = some r := by
  have h' : (match (Dt a).1, (Dt t).2 with | some d, some ds => some (d :: ds) | _, _ => none) = some es := h
  split at h'
  · rename_i d ds q1 q2
    cases h'
    exact ⟨d, ds, rfl, q1, q2⟩
  · cases h'
theorem Dt_cons' {a t : EV} {e : PyData} {r : List PyData} (h1 : (Dt a).1 = some e) (h2 : (Dt t).2 = some r) : (Dt (.cons a t)).2 = some (e :: r) := by
  show (match (Dt a).1, (Dt t).2 with | some d, some ds => some (d :: ds) | _, _ => none) = _
  rw [h1, h2]
theorem Dt_str {s : EV} {e : PyData} (h : (Dt (.str s)).1 = some e) : ∃ l, codes s = some l ∧ e = .str ⟨l.toArray⟩ := by
  have h' : (codes s).map (fun l => PyData.str ⟨l.toArray⟩) = some e := h
  cases q : codes s with
  | none => rw [q] at h'; cases h'
  | some l => rw [q] at h'; cases h'; exact ⟨l, rfl, rfl⟩
theorem Dt_tup {s : EV} {e : PyData} (h : (Dt (.tup s)).1 = some e) : ∃ l, (Dt s).2 = some l ∧ e = .tuple l := by
  have h' : (Dt s).2.map PyData.tuple = some e := h
  cases q : (Dt s).2 with
  | none => rw [q] at h'; cases h'
  | some l => rw [q] at h'; cases h'; exact ⟨l, rfl, rfl⟩
theorem Dt_lst {s : EV} {e : PyData} (h : (Dt (.lst s)).1 = some e) : ∃ l, (Dt s).2 = some l ∧ e = .list l := by
  have h' : (Dt s).2.map PyData.list = some e := h
  cases q : (Dt s).2 with
  | none => rw [q] at h'; cases h'
  | some l => rw [q] at h'; cases h'; exact ⟨l, rfl, rfl⟩
theorem codes_no {x xs : EV} {l : List Nat} (h : codes (.cons x xs) = some l) : ∃ c, x = .ch c := by
  cases x with
  | ch c => exact ⟨c, rfl⟩
  | _ => (cases h)
theorem codes_ok : ∀ (s : EV) (l : List Nat), codes s = some l → PyData.strOk ⟨l.toArray⟩ = true
  | .nil, l, e => by cases (show some [] = some l from e); simp [PyData.strOk]
  | .cons a t, l, e => by
    obtain ⟨c, rfl⟩ := codes_no e
    obtain ⟨k, rfl, q, hc⟩ := codes_cons e
    have ih := codes_ok t k q
    unfold PyData.strOk at ih ⊢
    simp only [List.all_toArray, List.all_cons, Bool.and_eq_true, decide_eq_true_iff] at ih ⊢
    exact ⟨hc, ih⟩
  | .non, _, e => by cases e
  | .bl _, _, e => by cases e
  | .int _, _, e => by cases e
  | .str _, _, e => by cases e
  | .tup _, _, e => by cases e
  | .lst _, _, e => by cases e
  | .ref _, _, e => by cases e
  | .ch _, _, e => by cases e
  | .cst _, _, e => by cases e
theorem str_beq (l k : List Nat) : ((⟨l.toArray⟩ : Str) == (⟨k.toArray⟩ : Str)) = decide (l = k) := by
  rw [Bool.eq_iff_iff, beq_iff_eq, decide_eq_true_iff]
  constructor
  · intro e
    injection e with e
    simpa using congrArg Array.toList e
  · intro e; rw [e]
/-- a text that is told sign by sign -/
theorem plain_str {α : Type} {P : α → Prop} {d a : α} (hb : ¬ P d) {c : EV} {l : List Nat} (h : cdx c = some l) (p : P (elist d a (fun _ _ _ => a) c)) : codes c = some l ∧ P a := by
  cases c with
  | nil => exact ⟨h, p⟩
  | cons => exact ⟨h, p⟩
  | _ => exact absurd p hb
/-! what a value is as data: lists of the store are read; n: how deep -/
noncomputable def fzL (ihr : EV → Nat → (EV → RE) → RE) (h : Tr) (x : EV) : Nat → (EV → RE) → RE := EV.rec (motive := fun _ => Nat → (EV → RE) → RE) (fun _ k => k .non) (fun b _ k => k (.bl b)) (fun i _ k => k (.int i)) (fun s _ _ k => elist RE.bad (k (.str s)) (fun _ _ _ => k (.str s)) s) (fun _ k => k .nil)
  (fun _ _ i1 i2 n k => i1 n fun a => i2 n fun b => k (.cons a b)) (fun _ ih n k => Nat.rec (motive := fun _ => RE) .bad (fun n _ => ih n fun t => k (.tup t)) n) (fun _ _ _ _ => .bad)
  (fun i n k => Nat.rec (motive := fun _ => RE) .bad (fun n _ => onLst .bad (fun xs => ihr xs n fun t => k (.lst t)) (tget h i)) n) (fun _ _ _ => .bad) (fun _ _ _ => .bad) x
noncomputable def fz (N : Nat) (h : Tr) : EV → Nat → (EV → RE) → RE := Nat.rec (motive := fun _ => EV → Nat → (EV → RE) → RE) (fun _ _ _ => .bad) (fun _ ih => fzL ih h) N
section
variable {Y : Fix} {ρ : Pl} {m : Nat} {h : Tr} {H : Hp} {P : RE → Prop}
theorem fz_of {Kf : PySem.W.Frag} (hb : ¬ P .bad) (s : S Y ρ m h H) : ∀ (N : Nat) (v : EV),
    (∀ x n k, R Y ρ m H v x → P (fz N h v n k) → ∃ z d, P (k z) ∧ (Dt z).1 = some d ∧ Dp Kf H x d ∧ d.canLay0 = true ∧ d.depth ≤ n) ∧
    (∀ xs n k, RL Y ρ m H v xs → P (fz N h v n k) → ∃ z ds, P (k z) ∧ (Dt z).2 = some ds ∧ DpAll Kf H xs ds ∧ PyData.canLayAll0 ds = true ∧ PyData.depthAll ds ≤ n)
  | 0, v => ⟨fun _ _ _ _ p => absurd p hb, fun _ _ _ _ p => absurd p hb⟩
  | N + 1, v => by
    have ihr := fz_of (Kf := Kf) hb s N
    induction v with
    | non => exact ⟨fun x n k r p => by cases (show x = .non from r); exact ⟨.non, .none, p, rfl, .non, by simp [PyData.canLay0], by simp [PyData.depth]⟩, fun _ _ _ r => r.elim⟩
    | bl b => exact ⟨fun x n k r p => by cases (show x = .bl b from r); exact ⟨.bl b, .bool b, p, rfl, .bl b, by simp [PyData.canLay0], by simp [PyData.depth]⟩, fun _ _ _ r => r.elim⟩
    | int i => exact ⟨fun x n k r p => by cases (show x = .int i from r); exact ⟨.int i, .int i, p, rfl, .int i, by simp [PyData.canLay0], by simp [PyData.depth]⟩, fun _ _ _ r => r.elim⟩
    | str c ih => exact ⟨fun x n k r p => by
        obtain ⟨l, hl, rfl⟩ := r
        obtain ⟨hl, p⟩ := plain_str hb hl (show P (elist RE.bad (k (.str c)) (fun _ _ _ => k (.str c)) c) from p)
        exact ⟨.str c, .str ⟨l.toArray⟩, p, by show (codes c).map _ = _; rw [hl]; rfl, .str _, by simpa [PyData.canLay0] using codes_ok c l hl, by simp [PyData.depth]⟩, fun _ _ _ r => r.elim⟩
    | nil => exact ⟨fun _ _ _ r => r.elim, fun xs n k r p => by cases (show xs = [] from r); exact ⟨.nil, [], p, rfl, .nil, by simp [PyData.canLayAll0], by simp [PyData.depthAll]⟩⟩
    | cons a t ia it => exact ⟨fun _ _ _ r => r.elim, fun xs n k r p => by
        obtain ⟨x, r', rfl, h1, h2⟩ := r
        obtain ⟨z, d, p, d1, d2, d3, d4⟩ := ia.1 x n _ h1 p
        obtain ⟨zs, ds, p, s1, s2, s3, s4⟩ := it.2 r' n _ h2 p
        exact ⟨.cons z zs, d :: ds, p, Dt_cons' d1 s1, .cons d2 s2, by simp [PyData.canLayAll0, d3, s3], by simp only [PyData.depthAll]; omega⟩⟩
    | tup xs ih => exact ⟨fun x n k r p => by
        obtain ⟨a, vs, rfl, h1, _, h2⟩ := r
        cases n with
        | zero => exact absurd p hb
        | succ n =>
          obtain ⟨zs, ds, p, s1, s2, s3, s4⟩ := ih.2 vs n _ h2 p
          exact ⟨.tup zs, .tuple ds, p, by show (Dt zs).2.map _ = _; rw [s1]; rfl, .tup (SqT.of h1) s2, by simpa [PyData.canLay0] using s3, by simp only [PyData.depth]; omega⟩, fun _ _ _ r => r.elim⟩
    | lst xs ih => exact ⟨fun _ _ _ r => r.elim, fun _ _ _ r => r.elim⟩
    | ref i => exact ⟨fun x n k r p => by
        obtain ⟨hi, rfl⟩ := r
        cases n with
        | zero => exact absurd p hb
        | succ n =>
          obtain ⟨xs, vs, ho, hv, rv, p⟩ := onLst_of hb s hi (show P (onLst .bad (fun xs => fz N h xs n fun t => k (.lst t)) (tget h i)) from p)
          obtain ⟨zs, ds, p, s1, s2, s3, s4⟩ := (ihr xs).2 vs n _ rv p
          exact ⟨.lst zs, .list ds, p, by show (Dt zs).2.map _ = _; rw [s1]; rfl, .lst (SqL.of hv) s2, by simpa [PyData.canLay0] using s3, by simp only [PyData.depth]; omega⟩, fun _ _ _ r => r.elim⟩
    | ch c => exact ⟨fun _ _ _ r => r.elim, fun _ _ _ r => r.elim⟩
    | cst c => exact ⟨fun _ _ _ _ p => absurd p hb, fun _ _ _ r => r.elim⟩
/-- .. whose items make none of the store's lists: it stays what it is -/
theorem fz_data {Kf : PySem.W.Frag} {CV : Nat → Value} {W : WX} {σ : L2.St} {K : KE} {N n : Nat} {v : EV} {x : V} {k : EV → RE} (s : S Y ρ m h H) (rx : R Y ρ m H v x) (p : PostE Y CV W σ ρ m H (fz N h v n k) K) (hn : n ≤ 64) :
    ∃ z d, PostE Y CV W σ ρ m H (k z) K ∧ (Dt z).1 = some d ∧ Dp Kf H x d ∧ SeqAt.shaped d = true ∧ d.depth ≤ n := by
  obtain ⟨z, d, p, d1, d2, d3, d4⟩ := (fz_of (Kf := Kf) (P := fun r => PostE Y CV W σ ρ m H r K) (fun z => z) s N v).1 x n k rx p
  refine ⟨z, d, p, d1, d2, ?_, d4⟩
  unfold SeqAt.shaped
  rw [d3, decide_eq_true (by omega)]; rfl
end
noncomputable def b2i' (b : Bool) : Int := Bool.rec (motive := fun _ => Int) 0 1 b
/-- by kinds -/
noncomputable def evc {α : Type} (d : α) (non : α) (bl : Bool → α) (int : Int → α) (str : EV → α) (nil : α) (cons : EV → EV → α) (tup : EV → α) (lst : EV → α) (ch : Nat → α) (y : EV) : α :=
  EV.rec (motive := fun _ => α) non bl int (fun s _ => str s) nil (fun a b _ _ => cons a b) (fun t _ => tup t) (fun t _ => lst t) (fun _ => d) ch (fun _ => d) y
/-- == of data -/
noncomputable def eqE (x : EV) : EV → Bool := EV.rec (motive := fun _ => EV → Bool)
  (evc false true (fun _ => false) (fun _ => false) (fun _ => false) false (fun _ _ => false) (fun _ => false) (fun _ => false) (fun _ => false))
  (fun a => evc false false (fun b => Bool.rec (motive := fun _ => Bool) (Bool.rec (motive := fun _ => Bool) true false b) b a) (fun j => eqI (b2i' a) j) (fun _ => false) false (fun _ _ => false) (fun _ => false) (fun _ => false) (fun _ => false))
  (fun i => evc false false (fun b => eqI i (b2i' b)) (fun j => eqI i j) (fun _ => false) false (fun _ _ => false) (fun _ => false) (fun _ => false) (fun _ => false))
  (fun _ ih => evc false false (fun _ => false) (fun _ => false) ih false (fun _ _ => false) (fun _ => false) (fun _ => false) (fun _ => false))
  (evc false false (fun _ => false) (fun _ => false) (fun _ => false) true (fun _ _ => false) (fun _ => false) (fun _ => false) (fun _ => false))
  (fun _ _ i1 i2 => evc false false (fun _ => false) (fun _ => false) (fun _ => false) false (fun b bs => andB (i1 b) (i2 bs)) (fun _ => false) (fun _ => false) (fun _ => false))
  (fun _ ih => evc false false (fun _ => false) (fun _ => false) (fun _ => false) false (fun _ _ => false) ih (fun _ => false) (fun _ => false))
  (fun _ ih => evc false false (fun _ => false) (fun _ => false) (fun _ => false) false (fun _ _ => false) (fun _ => false) ih (fun _ => false))
  (fun _ _ => false)
  (fun a => evc false false (fun _ => false) (fun _ => false) (fun _ => false) false (fun _ _ => false) (fun _ => false) (fun _ => false) (fun b => Nat.beq a b))
  (fun _ _ => false) x
theorem eqE_codes : ∀ (x y : EV) (l k : List Nat), codes x = some l → codes y = some k → eqE x y = decide (l = k)
  | .nil, y, l, k, e1, e2 => by
    cases (show some [] = some l from e1)
    cases y with
    | nil => cases (show some [] = some k from e2); rfl
    | cons c t =>
      obtain ⟨c, rfl⟩ := codes_no e2
      obtain ⟨r, rfl, _, _⟩ := codes_cons e2; rfl
    | _ => (cases e2)
  | .cons a t, y, l, k, e1, e2 => by
    obtain ⟨a, rfl⟩ := codes_no e1
    obtain ⟨l1, rfl, q1, _⟩ := codes_cons e1
    cases y with
    | nil => cases (show some [] = some k from e2); rfl
    | cons c u =>
      obtain ⟨c, rfl⟩ := codes_no e2
      obtain ⟨r, rfl, q, _⟩ := codes_cons e2
      show andB (Nat.beq a c) (eqE t u) = _
      rw [andB_eq, eqE_codes t u l1 r q1 q, Bool.eq_iff_iff, Bool.and_eq_true, decide_eq_true_iff, decide_eq_true_iff, Nat.beq_eq]
      constructor
      · rintro ⟨rfl, rfl⟩; rfl
      · intro e; injection e with e1 e2; exact ⟨e1, e2⟩
    | _ => (cases e2)
  | .non, _, _, _, e1, _ => by cases e1
  | .bl _, _, _, _, e1, _ => by cases e1
  | .int _, _, _, _, e1, _ => by cases e1
  | .str _, _, _, _, e1, _ => by cases e1
  | .tup _, _, _, _, e1, _ => by cases e1
  | .lst _, _, _, _, e1, _ => by cases e1
  | .ref _, _, _, _, e1, _ => by cases e1
  | .ch _, _, _, _, e1, _ => by cases e1
  | .cst _, _, _, _, e1, _ => by cases e1
theorem eqE_data : ∀ x : EV, (∀ y d e, (Dt x).1 = some d → (Dt y).1 = some e → eqE x y = PyData.eqv d e) ∧ (∀ y ds es, (Dt x).2 = some ds → (Dt y).2 = some es → eqE x y = PyData.eqvAll ds es)
  | .non => ⟨fun y d e h1 h2 => by
    cases h1
    cases y with
    | non => cases h2; simp [PyData.eqv, eqE, evc]
    | bl => cases h2; simp [PyData.eqv, eqE, evc]
    | int => cases h2; simp [PyData.eqv, eqE, evc]
    | str => obtain ⟨_, _, rfl⟩ := Dt_str h2; simp [PyData.eqv, eqE, evc]
    | tup => obtain ⟨_, _, rfl⟩ := Dt_tup h2; simp [PyData.eqv, eqE, evc]
    | lst => obtain ⟨_, _, rfl⟩ := Dt_lst h2; simp [PyData.eqv, eqE, evc]
    | _ => (cases h2), fun _ _ _ h => (nomatch h)⟩
  | .bl b => ⟨fun y d e h1 h2 => by
    cases h1
    cases y with
    | non => cases h2; simp [PyData.eqv, eqE, evc]
    | bl c => cases h2; cases b <;> cases c <;> simp [PyData.eqv, eqE, evc]
    | int j =>
      cases h2
      show eqI (b2i' b) j = _
      rw [eqI_eq]
      cases b <;> simp [PyData.eqv, b2i']
    | str => obtain ⟨_, _, rfl⟩ := Dt_str h2; simp [PyData.eqv, eqE, evc]
    | tup => obtain ⟨_, _, rfl⟩ := Dt_tup h2; simp [PyData.eqv, eqE, evc]
    | lst => obtain ⟨_, _, rfl⟩ := Dt_lst h2; simp [PyData.eqv, eqE, evc]
    | _ => (cases h2), fun _ _ _ h => (nomatch h)⟩
  | .int i => ⟨fun y d e h1 h2 => by
    cases h1
    cases y with
    | non => cases h2; simp [PyData.eqv, eqE, evc]
    | bl c =>
      cases h2
      show eqI i (b2i' c) = _
      rw [eqI_eq]
      cases c <;> simp [PyData.eqv, b2i']
    | int j =>
      cases h2
      show eqI i j = _
      rw [eqI_eq]
      simp [PyData.eqv]
    | str => obtain ⟨_, _, rfl⟩ := Dt_str h2; simp [PyData.eqv, eqE, evc]
    | tup => obtain ⟨_, _, rfl⟩ := Dt_tup h2; simp [PyData.eqv, eqE, evc]
    | lst => obtain ⟨_, _, rfl⟩ := Dt_lst h2; simp [PyData.eqv, eqE, evc]
    | _ => (cases h2), fun _ _ _ h => (nomatch h)⟩
  | .str s => ⟨fun y d e h1 h2 => by
    obtain ⟨l, hl, rfl⟩ := Dt_str h1
    cases y with
    | non => cases h2; simp [PyData.eqv, eqE, evc]
    | bl => cases h2; simp [PyData.eqv, eqE, evc]
    | int => cases h2; simp [PyData.eqv, eqE, evc]
    | str t =>
      obtain ⟨k, hk, rfl⟩ := Dt_str h2
      show eqE s t = _
      rw [eqE_codes s t l k hl hk]
      rw [PyData.eqv, str_beq]
    | tup => obtain ⟨_, _, rfl⟩ := Dt_tup h2; simp [PyData.eqv, eqE, evc]
    | lst => obtain ⟨_, _, rfl⟩ := Dt_lst h2; simp [PyData.eqv, eqE, evc]
    | _ => (cases h2), fun _ _ _ h => (nomatch h)⟩
  | .nil => ⟨fun _ _ _ h => (nomatch h), fun y ds es h1 h2 => by
    cases h1
    cases y with
    | nil => cases h2; simp [PyData.eqvAll, eqE, evc]
    | cons => obtain ⟨_, _, rfl, _⟩ := Dt_cons h2; simp [PyData.eqvAll, eqE, evc]
    | _ => (cases h2)⟩
  | .cons a t => ⟨fun _ _ _ h => (nomatch h), fun y ds es h1 h2 => by
    obtain ⟨d, r, rfl, q1, q2⟩ := Dt_cons h1
    cases y with
    | nil => cases h2; simp [PyData.eqvAll, eqE, evc]
    | cons b u =>
      obtain ⟨e, r', rfl, p1, p2⟩ := Dt_cons h2
      show andB (eqE a b) (eqE t u) = _
      rw [andB_eq, (eqE_data a).1 b d e q1 p1, (eqE_data t).2 u r r' q2 p2, PyData.eqvAll]
    | _ => (cases h2)⟩
  | .tup s => ⟨fun y d e h1 h2 => by
    obtain ⟨l, hl, rfl⟩ := Dt_tup h1
    cases y with
    | non => cases h2; simp [PyData.eqv, eqE, evc]
    | bl => cases h2; simp [PyData.eqv, eqE, evc]
    | int => cases h2; simp [PyData.eqv, eqE, evc]
    | str => obtain ⟨_, _, rfl⟩ := Dt_str h2; simp [PyData.eqv, eqE, evc]
    | tup t =>
      obtain ⟨k, hk, rfl⟩ := Dt_tup h2
      show eqE s t = _
      rw [(eqE_data s).2 t l k hl hk, PyData.eqv]
    | lst => obtain ⟨_, _, rfl⟩ := Dt_lst h2; simp [PyData.eqv, eqE, evc]
    | _ => (cases h2), fun _ _ _ h => (nomatch h)⟩
  | .lst s => ⟨fun y d e h1 h2 => by
    obtain ⟨l, hl, rfl⟩ := Dt_lst h1
    cases y with
    | non => cases h2; simp [PyData.eqv, eqE, evc]
    | bl => cases h2; simp [PyData.eqv, eqE, evc]
    | int => cases h2; simp [PyData.eqv, eqE, evc]
    | str => obtain ⟨_, _, rfl⟩ := Dt_str h2; simp [PyData.eqv, eqE, evc]
    | tup => obtain ⟨_, _, rfl⟩ := Dt_tup h2; simp [PyData.eqv, eqE, evc]
    | lst t =>
      obtain ⟨k, hk, rfl⟩ := Dt_lst h2
      show eqE s t = _
      rw [(eqE_data s).2 t l k hl hk, PyData.eqv]
    | _ => (cases h2), fun _ _ _ h => (nomatch h)⟩
  | .ref _ => ⟨fun _ _ _ h => (nomatch h), fun _ _ _ h => (nomatch h)⟩
  | .ch _ => ⟨fun _ _ _ h => (nomatch h), fun _ _ _ h => (nomatch h)⟩
  | .cst _ => ⟨fun _ _ _ h => (nomatch h), fun _ _ _ h => (nomatch h)⟩
/-- == -/
noncomputable def fEqW (neg : Bool) : EV → EV → Tr → Nat → RE := fun v w h m => fz 5 h v 60 fun v => fz 5 h w 60 fun w => okB (Bool.rec (motive := fun _ => Bool) (eqE v w) (notB (eqE v w)) neg) h m
section
variable {Y : Fix} {X : Cx} {CV : Nat → Value} {W : WX}
theorem o_eq {Kf : PySem.W.Frag} : Op2 Y CV W (fEqW false) (rEqD Kf) := fun σ ρ m h H v w x y Q s rx ry p => by
  obtain ⟨v', d, p, d1, d2, d3, _⟩ := fz_data (Kf := Kf) s rx p (by omega)
  obtain ⟨w', e, p, e1, e2, e3, _⟩ := fz_data (Kf := Kf) s ry p (by omega)
  have p' : PostE Y CV W σ ρ m H (okB (eqE v' w') h m) _ := p
  rw [okB_eq, (eqE_data v').1 w' d e d1 e1] at p'
  exact ⟨d, e, d2, e2, d3, e3, post_ok s p' _ rfl⟩
theorem o_ne {Kf : PySem.W.Frag} : Op2 Y CV W (fEqW true) (rNeD Kf) := fun σ ρ m h H v w x y Q s rx ry p => by
  obtain ⟨v', d, p, d1, d2, d3, _⟩ := fz_data (Kf := Kf) s rx p (by omega)
  obtain ⟨w', e, p, e1, e2, e3, _⟩ := fz_data (Kf := Kf) s ry p (by omega)
  have p' : PostE Y CV W σ ρ m H (okB (notB (eqE v' w')) h m) _ := p
  rw [okB_eq, notB_eq, (eqE_data v').1 w' d e d1 e1] at p'
  exact ⟨d, e, d2, e2, d3, e3, post_ok s p' _ rfl⟩
end
end Dz

namespace Dz
open PySem L2
/-! ### statements -/
noncomputable def bindS (r : RS) (k : CS) : RS := RS.rec (motive := fun _ => RS) k (fun v h m => .ret v h m) (fun l h m => .brk l h m) (fun l h m => .cnt l h m) (fun c p l h m => .exc c p l h m) .bad r
noncomputable def sNx : CS := fun l h m => .nx l h m
noncomputable def sSeq (a b : CS) : CS := fun l h m => bindS (a l h m) b
noncomputable def sAsg (i : Nat) (e : CE) : CS := fun l h m => bindES (e l h m) l fun v h m => lsetK v .bad l i fun l => .nx l h m
noncomputable def sIf (c : CE) (a b : CS) : CS := fun l h m => bindES (c l h m) l fun v h m => onBl .bad (fun t => Bool.rec (motive := fun _ => RS) (b l h m) (a l h m) t) v
noncomputable def sRet (e : CE) : CS := fun l h m => bindES (e l h m) l fun v h m => .ret v h m
noncomputable def sRetN : CS := fun l h m => .ret .non h m
noncomputable def sEx (e : CE) : CS := fun l h m => bindES (e l h m) l fun _ h m => .nx l h m
noncomputable def sBrk : CS := fun l h m => .brk l h m
noncomputable def sCnt : CS := fun l h m => .cnt l h m
noncomputable def sRaise (c : Nat) : CS := fun l h m => .exc c .non l h m
noncomputable def sBad : CS := fun _ _ _ => .bad
/-- a loop's turn: what comes of its body -/
noncomputable def turnS (r : RS) (k : CS) : RS := RS.rec (motive := fun _ => RS) k (fun v h m => .ret v h m) (fun l h m => .nx l h m) k (fun c p l h m => .exc c p l h m) .bad r
section
variable {Y : Fix} {X : Cx} {CV : Nat → Value} {W : WX} {a b : CS} {e c : CE} {ee ec : Expr} {st : Stmt} {sa sb rest : List Stmt} {pos : Pos}
theorem tS_seq {D : Ends} {σ : L2.St} {H : Hp} (t : tS Y CV W (sSeq a b) D σ H) : tSeq (tS Y CV W a) (tS Y CV W b) D σ H := by
  obtain ⟨l, h, m, ρ, s, lr, p⟩ := t
  refine ⟨l, h, m, ρ, s, lr, ?_⟩
  have p' : PostS Y CV W ρ m H (bindS (a l h m) b) D := p
  cases z : a l h m with
  | nx l' h' m' =>
    rw [z] at p'
    exact fun ρ' H' σ' e s' lr' => ⟨l', h', m', ρ', s', lr', PostS.shift (show PostS Y CV W ρ m H (b l' h' m') D from p') e⟩
  | _ => rw [z] at p'; exact p'
theorem dss_nil : PSs X [] (tS Y CV W sNx) := pss_mono pss_nil fun D σ H ⟨l, h, m, ρ, s, lr, p⟩ => p ρ H σ Ext.refl s lr
theorem dss_cons (h1 : PS X st (tS Y CV W a)) (h2 : PSs X rest (tS Y CV W b)) : PSs X (st :: rest) (tS Y CV W (sSeq a b)) := pss_mono (pss_cons h1 h2) fun _ _ _ => tS_seq
theorem dss_one (h1 : PS X st (tS Y CV W a)) : PSs X [st] (tS Y CV W a) := pss_one h1
theorem ds_pass : PS X (.Pass pos) (tS Y CV W sNx) := ps_mono ps_pass fun D σ H ⟨l, h, m, ρ, s, lr, p⟩ => p ρ H σ Ext.refl s lr
theorem ds_break : PS X (.Break pos) (tS Y CV W sBrk) := ps_mono ps_break fun D σ H ⟨l, h, m, ρ, s, lr, p⟩ => p ρ H σ Ext.refl s lr
theorem ds_continue : PS X (.Continue pos) (tS Y CV W sCnt) := ps_mono ps_continue fun D σ H ⟨l, h, m, ρ, s, lr, p⟩ => p ρ H σ Ext.refl s lr
theorem ds_bad {st : Stmt} : PS X st (tS Y CV W sBad) := ps_mono ps_never fun D σ H ⟨l, h, m, ρ, s, lr, p⟩ => p.elim
theorem ds_set {i : Nat} {st : Stmt} (hp : PS X st (tAsg (tE Y CV W e) (gName i))) : PS X st (tS Y CV W (sAsg i e)) :=
  ps_mono hp fun D σ H ⟨l, h, m, ρ, s, lr, p⟩ => ⟨l, h, m, ρ, s, lr, PostE.mono (PostS.bind lr p) fun g1 m1 h1 H1 v e1 s1 p1 x rx => by
    rcases lsetK_eq v RS.bad l i (fun l => RS.nx l h1 m1) with ⟨l', el, hn, q⟩ | q
    · rw [q] at p1
      exact p1 g1 H1 _ Ext.refl s1 ((lr.mono e1).set el hn rx)
    · rw [q] at p1; exact p1.elim⟩
theorem ds_if (hc : PT X ec (tT Y CV W c)) (ha : PSs X sa (tS Y CV W a)) (hb : PSs X sb (tS Y CV W b)) : PS X (.If ec sa sb pos) (tS Y CV W (sIf c a b)) := ps_mono (ps_if hc ha hb) fun D σ H ⟨l, h, m, ρ, s, lr, p⟩ =>
  ⟨l, h, m, ρ, s, lr, PostE.mono (PostS.bind lr p) fun g1 m1 h1 H1 v e1 s1 p1 => by
    obtain ⟨i, ev, q⟩ := onBl_S' p1
    refine ⟨i, ev, ?_⟩
    cases i with
    | true => exact ⟨l, h1, m1, g1, s1, lr.mono e1, q⟩
    | false => exact ⟨l, h1, m1, g1, s1, lr.mono e1, q⟩⟩
theorem ds_ret (he : PE X ee (tE Y CV W e)) : PS X (.Return (some ee) pos) (tS Y CV W (sRet e)) := ps_mono (ps_ret he) fun D σ H ⟨l, h, m, ρ, s, lr, p⟩ =>
  ⟨l, h, m, ρ, s, lr, PostE.mono (PostS.bind lr p) fun g1 m1 h1 H1 v e1 s1 p1 x rx => p1 g1 H1 x Ext.refl s1 rx⟩
theorem ds_retN : PS X (.Return none pos) (tS Y CV W sRetN) := ps_mono ps_retN fun D σ H ⟨l, h, m, ρ, s, lr, p⟩ => p ρ H .non Ext.refl s rfl
theorem ds_expr (hp : PS X st (tDrop (tE Y CV W e))) : PS X st (tS Y CV W (sEx e)) := ps_mono hp fun D σ H ⟨l, h, m, ρ, s, lr, p⟩ =>
  ⟨l, h, m, ρ, s, lr, PostE.mono (PostS.bind lr p) fun g1 m1 h1 H1 v e1 s1 p1 x rx => p1 g1 H1 σ Ext.refl s1 (lr.mono e1)⟩
theorem ds_raise {k : Nat} {C : Value} (hC : CV k = C) (hp : PS X st (fun _ σ H => W C none σ H)) : PS X st (tS Y CV W (sRaise k)) := ps_mono hp fun D σ H ⟨l, h, m, ρ, s, lr, p⟩ => by
  have q := p ρ H σ none Ext.refl s lr rfl
  rw [hC] at q
  exact q
end
/-! ### targets -/
abbrev CG := EV → Tr → LL → (LL → RS) → RS
abbrev CGE := EV → Tr → LL → (LL → RE) → RE
/-- a target's form: a name's slot, or several in a tuple -/
inductive Gd where
  | nm (i : Nat) | tup (gs : Gd) | nil | cons (g gs : Gd)
/-- v given to a target -/
noncomputable def gset {α : Type} (d : α) (g : Gd) : EV → LL → (LL → α) → α := Gd.rec (motive := fun _ => EV → LL → (LL → α) → α) (fun i v l k => lsetK v d l i k) (fun _ ih v l k => onTup d (fun xs => ih xs l k) v) (fun xs l k => onNil d (k l) xs)
  (fun _ _ i1 i2 xs l k => onCons d (fun x r => i1 x l fun l => i2 r l k) xs) g
def Gd.slots : Gd → List Nat
  | .nm i => [i]
  | .tup g => g.slots
  | .nil => []
  | .cons a b => a.slots ++ b.slots
def Gd.len : Gd → Nat
  | .cons _ b => b.len + 1
  | _ => 0
/-- a target; a row of targets -/
def Gd.ok : Gd → Bool × Bool
  | .nm _ => (true, false)
  | .tup g => (g.ok.2, false)
  | .nil => (false, true)
  | .cons a b => (false, a.ok.1 && b.ok.2)
/-- what is asked of a target, of a row of them -/
def Gd.rd (K : PySem.W.Frag) : Gd → TG × TGs
  | .nm i => (gName i, fun _ _ _ _ => False)
  | .tup gs => (gTup K gs.len (gs.rd K).2, fun _ _ _ _ => False)
  | .nil => (fun _ _ _ _ => False, gNil)
  | .cons g gs => (fun _ _ _ _ => False, gCons (g.rd K).1 (gs.rd K).2)
theorem wipe_set {σ : L2.St} {is : List Nat} {j : Nat} {x : Option V} (hj : j ∈ is) : L2.wipe (σ.set j x) is = L2.wipe σ is := by
  refine List.ext_getElem? fun k => ?_
  by_cases hk : k ∈ is
  · have z : ∀ τ : L2.St, τ.length = σ.length → (L2.wipe τ is)[k]? = if k < σ.length then some none else none := fun τ hτ => by
      cases q : (L2.wipe τ is)[k]? with
      | none =>
        have := List.getElem?_eq_none_iff.mp q
        rw [wipe_length, hτ] at this
        rw [if_neg (by omega)]
      | some u =>
        have hl := (List.getElem?_eq_some_iff.mp q).1
        rw [wipe_length, hτ] at hl
        rw [if_pos hl]
        cases u with
        | none => rfl
        | some v => exact absurd hk (wipe_some q).2
    rw [z _ (by rw [List.length_set]), z _ rfl]
  · rw [wipe_out hk, wipe_out hk, List.getElem?_set_ne (fun e => hk (by rw [← e]; exact hj))]
theorem wipe_wipe {σ : L2.St} : ∀ (is : List Nat) (js : List Nat), (∀ i ∈ js, i ∈ is) → ∀ (k : Nat), (L2.wipe (L2.wipe σ js) is)[k]? = (L2.wipe σ is)[k]? := fun is js hs k => by
  by_cases hk : k ∈ is
  · have z : ∀ τ : L2.St, τ.length = σ.length → (L2.wipe τ is)[k]? = if k < σ.length then some none else none := fun τ hτ => by
      cases q : (L2.wipe τ is)[k]? with
      | none =>
        have := List.getElem?_eq_none_iff.mp q
        rw [wipe_length, hτ] at this
        rw [if_neg (by omega)]
      | some u =>
        have hl := (List.getElem?_eq_some_iff.mp q).1
        rw [wipe_length, hτ] at hl
        rw [if_pos hl]
        cases u with
        | none => rfl
        | some v => exact absurd hk (wipe_some q).2
    rw [z _ (wipe_length _ _), z _ rfl]
  · rw [wipe_out hk, wipe_out hk, wipe_out (fun z => hk (hs k z))]
section
variable {Y : Fix} {α : Type} {d : α} {P : α → Prop}
theorem gset_of {Kf : PySem.W.Frag} (hb : ¬ P d) {ρ : Pl} {m : Nat} {H : Hp} : ∀ (g : Gd),
    (g.ok.1 = true → ∀ (v : EV) (x : V) (l : LL) (σ : L2.St) (k : LL → α), R Y ρ m H v x → LR Y ρ m H l σ → P (gset d g v l k) → (∃ l' σ', LR Y ρ m H l' σ' ∧ P (k l')) ∧ ∀ Q : L2.St → Hp → Prop,
      (∀ l' σ', LR Y ρ m H l' σ' → (∀ own : List Nat, (∀ i ∈ g.slots, i ∈ own) → L2.wipe σ' own = L2.wipe σ own) → P (k l') → Q σ' H) → (g.rd Kf).1 x σ H Q) ∧
    (g.ok.2 = true → ∀ (v : EV) (xs : List V) (l : LL) (σ : L2.St) (k : LL → α), RL Y ρ m H v xs → LR Y ρ m H l σ → P (gset d g v l k) → (∃ l' σ', LR Y ρ m H l' σ' ∧ P (k l') ∧ xs.length = g.len) ∧ ∀ Q : L2.St → Hp → Prop,
      (∀ l' σ', LR Y ρ m H l' σ' → (∀ own : List Nat, (∀ i ∈ g.slots, i ∈ own) → L2.wipe σ' own = L2.wipe σ own) → P (k l') → Q σ' H) → (g.rd Kf).2 xs σ H Q)
  | .nm i => by
    refine ⟨fun _ v x l σ k rx lr p => ?_, fun z => (nomatch z)⟩
    have p' : P (lsetK v d l i k) := p
    rcases lsetK_eq v d l i k with ⟨l', el, hn, e⟩ | e
    · rw [e] at p'
      exact ⟨⟨l', _, lr.set el hn rx, p'⟩, fun Q q => q l' _ (lr.set el hn rx) (fun own ho => wipe_set (ho i (List.mem_singleton.mpr rfl))) p'⟩
    · rw [e] at p'; exact absurd p' hb
  | .tup gs => by
    refine ⟨fun ok v x l σ k rx lr p => ?_, fun z => (nomatch z)⟩
    obtain ⟨xs, a, vs, rfl, rfl, ha, _, rl, p⟩ := onTup_of hb rx (show P (onTup d (fun xs => gset d gs xs l k) v) from p)
    obtain ⟨⟨l', σ', lr', p', hl⟩, h2⟩ := (gset_of (Kf := Kf) hb gs).2 ok xs vs l σ k rl lr p
    exact ⟨⟨l', σ', lr', p'⟩, fun Q q => ⟨a, vs, rfl, SqT.of ha, hl, h2 Q q⟩⟩
  | .nil => by
    refine ⟨fun z => (nomatch z), fun _ v xs l σ k rx lr p => ?_⟩
    obtain ⟨rfl, rfl, p⟩ := onNil_of hb rx (show P (onNil d (k l) v) from p)
    exact ⟨⟨l, σ, lr, p, rfl⟩, fun Q q => ⟨rfl, q l σ lr (fun _ _ => rfl) p⟩⟩
  | .cons g gs => by
    refine ⟨fun z => (nomatch z), fun ok v xs l σ k rx lr p => ?_⟩
    obtain ⟨ok1, ok2⟩ := Bool.and_eq_true_iff.mp (show (g.ok.1 && gs.ok.2) = true from ok)
    obtain ⟨a, r, x, t, rfl, rfl, ra, rr, p⟩ := onCons_of hb rx (show P (onCons d (fun x r => gset d g x l fun l => gset d gs r l k) v) from p)
    obtain ⟨⟨l1, σ1, lr1, p1⟩, ig⟩ := (gset_of (Kf := Kf) hb g).1 ok1 a x l σ (fun l => gset d gs r l k) ra lr p
    have igs := (gset_of (Kf := Kf) (ρ := ρ) (m := m) (H := H) hb gs).2 ok2 r t
    refine ⟨?_, fun Q q => ⟨x, t, rfl, ig _ fun l' σ' lr' hw p' => (igs l' σ' k rr lr' p').2 Q fun l2 σ2 lr2 hw2 p2 => q l2 σ2 lr2 (fun own ho => ?_) p2⟩⟩
    · obtain ⟨⟨l2, σ2, lr2, p2, hl⟩, _⟩ := igs l1 σ1 k rr lr1 p1
      exact ⟨l2, σ2, lr2, p2, by rw [List.length_cons, hl]; rfl⟩
    · rw [hw2 own fun i hi => ho i (List.mem_append_right _ hi), hw own fun i hi => ho i (List.mem_append_left _ hi)]
end
/-! the target's own text -/
def slotE (N : List Str) (sc : Scope) (fl : Bool) (i : Nat) (x : Str) : Bool := decide (N[i]? = some x) && (sc.names.lookup x == some .local || (fl && sc.names.lookup x == some .cell))
def Gd.chk (N : List Str) (sc : Scope) (fl : Bool) : Gd → (Expr → Bool) × (List Expr → Bool)
  | .nm i => (fun e => match e with | .Name x _ => slotE N sc fl i x | _ => false, fun _ => false)
  | .tup gs => (fun e => match e with | .Tuple es _ _ => (gs.chk N sc fl).2 es | _ => false, fun _ => false)
  | .nil => (fun _ => false, fun es => es.isEmpty)
  | .cons g gs => (fun _ => false, fun es => match es with | e :: r => (g.chk N sc fl).1 e && (gs.chk N sc fl).2 r | [] => false)
/-- what is known of a context: its names, its scope -/
structure Ct (X : Cx) (N : List Str) (sc : Scope) (fl : Bool) : Prop where
  n : X.N = N
  s : X.env.scope = sc
  nd : N.Nodup
  calm : X.calm = true
  fn : fl = true → ∀ x, X.fn x = true
theorem slotE_ok {X : Cx} {N : List Str} {sc : Scope} {fl : Bool} (C : Ct X N sc fl) {i : Nat} {x : Str} (h : slotE N sc fl i x = true) : X.N[i]? = some x ∧ Loc X.env.scope x ∧ (X.fn x = true ∨ X.env.scope.names.lookup x = some .local) := by
  obtain ⟨h1, h2⟩ := Bool.and_eq_true_iff.mp h
  rw [C.n, C.s]
  rcases Bool.or_eq_true_iff.mp h2 with q | q
  · exact ⟨of_decide_eq_true h1, .inl (beq_iff_eq.mp q), .inr (beq_iff_eq.mp q)⟩
  · obtain ⟨q1, q2⟩ := Bool.and_eq_true_iff.mp q
    exact ⟨of_decide_eq_true h1, .inr (beq_iff_eq.mp q2), .inl (C.fn q1 x)⟩
theorem gd_ok {X : Cx} {N : List Str} {sc : Scope} {fl : Bool} (C : Ct X N sc fl) : ∀ g : Gd, (∀ e, (g.chk N sc fl).1 e = true → PG X e (g.rd X.K).1 ∧ plainE e = true) ∧
    (∀ es, (g.chk N sc fl).2 es = true → PGs X es (g.rd X.K).2 ∧ (assignEach es X.env).length = g.len ∧ (assignEach es X.env).findIdx? (·.1) = none)
  | .nm i => ⟨fun e h => by
    match e, h with
    | .Name x p, h =>
      obtain ⟨h1, h2, h3⟩ := slotE_ok C h
      exact ⟨pg_name (by rw [C.n]; exact C.nd) h1 h2 h3, rfl⟩, fun _ h => (nomatch h)⟩
  | .tup gs => ⟨fun e h => by
    match e, h with
    | .Tuple es k p, h =>
      obtain ⟨h1, h2, h3⟩ := (gd_ok C gs).2 es h
      exact ⟨pg_tup C.calm h1 h2 h3, rfl⟩, fun _ h => (nomatch h)⟩
  | .nil => ⟨fun _ h => (nomatch h), fun es h => by
    match es, h with
    | [], _ => exact ⟨pgs_nil, rfl, rfl⟩⟩
  | .cons g gs => ⟨fun _ h => (nomatch h), fun es h => by
    match es, h with
    | e :: r, h =>
      obtain ⟨h1, h2⟩ := Bool.and_eq_true_iff.mp (show ((g.chk N sc fl).1 e && (gs.chk N sc fl).2 r) = true from h)
      obtain ⟨a1, a2⟩ := (gd_ok C g).1 e h1
      obtain ⟨b1, b2, b3⟩ := (gd_ok C gs).2 r h2
      have ea : assignEach (e :: r) X.env = (false, assign e X.env) :: assignEach r X.env := by
        cases e <;> first | rfl | cases a2
      refine ⟨pgs_cons a1 b1 (by rw [ea]; rfl), by rw [ea, List.length_cons, b2]; rfl, ?_⟩
      rw [ea, List.findIdx?_cons, b3]; rfl⟩
/-- targets hold just what their forms say -/
theorem gd_row : ∀ g : Gd, ∀ N sc fl, (∀ e, (g.chk N sc fl).1 e = true → g.ok.1 = true) ∧ (∀ es, (g.chk N sc fl).2 es = true → g.ok.2 = true)
  | .nm i, _, _, _ => ⟨fun _ _ => rfl, fun _ h => (nomatch h)⟩
  | .tup gs, N, sc, fl => ⟨fun e h => by
    match e, h with
    | .Tuple es k p, h => exact (gd_row gs N sc fl).2 es h, fun _ h => (nomatch h)⟩
  | .nil, _, _, _ => ⟨fun _ h => (nomatch h), fun _ _ => rfl⟩
  | .cons g gs, N, sc, fl => ⟨fun _ h => (nomatch h), fun es h => by
    match es, h with
    | e :: r, h =>
      obtain ⟨h1, h2⟩ := Bool.and_eq_true_iff.mp (show ((g.chk N sc fl).1 e && (gs.chk N sc fl).2 r) = true from h)
      exact Bool.and_eq_true_iff.mpr ⟨(gd_row g N sc fl).1 e h1, (gd_row gs N sc fl).2 r h2⟩⟩
end Dz

namespace Dz
open PySem L2
/-! ### what is walked -/
noncomputable def nthK {α : Type} (d stop : α) (xs : EV) : Nat → (EV → α) → α := elist (fun _ _ => d) (fun _ _ => stop) (fun x _ ih n k => Nat.rec (motive := fun _ => α) (k x) (fun j _ => ih j k) n) xs
/-- the next item of a tuple's rest, of a list of the store -/
noncomputable def subW {α : Type} (d : α) (s : EV) (i : Nat) (h : Tr) (k : EV → EV → α) (stop : α) : α := EV.rec (motive := fun _ => α) d (fun _ => d) (fun _ => d) (fun _ _ => d) d (fun _ _ _ _ => d)
  (fun xs _ => elist d stop (fun x r _ => k x (.tup r)) xs) (fun _ _ => d) (fun a => onLst d (fun xs => nthK d stop xs i fun x => k x (.ref a)) (tget h a)) (fun _ => d) (fun _ => d) s
/-- the next item: s itself; 1: enumerate; 2: zip -/
noncomputable def stepW {α : Type} (d : α) (s : EV) (i : Nat) (h : Tr) (k : EV → EV → α) (stop : α) : α := EV.rec (motive := fun _ => α) d (fun _ => d) (fun _ => d) (fun _ _ => d) d
  (fun t r _ _ => EV.rec (motive := fun _ => α) d (fun _ => d) (fun _ => d) (fun _ _ => d) d (fun _ _ _ _ => d) (fun _ _ => d) (fun _ _ => d) (fun _ => d)
    (fun c => Nat.rec (motive := fun _ => α) d (fun c _ => Nat.rec (motive := fun _ => α) (subW d r i h (fun x r' => k (.tup (.cons (.int (.ofNat i)) (.cons x .nil))) (.cons (.ch 1) r')) stop)
      (fun _ _ => onCons d (fun r1 r2 => subW d r1 i h (fun x r1' => subW d r2 i h (fun y r2' => k (.tup (.cons x (.cons y .nil))) (.cons (.ch 2) (.cons r1' r2'))) stop) (subW d r2 i h (fun _ _ => stop) stop)) r) c) c) (fun _ => d) t)
  (fun _ _ => subW d s i h k stop) (fun _ _ => d) (fun _ => subW d s i h k stop) (fun _ => d) (fun _ => d) s
structure Walk (Y : Fix) (J : It) (F : Nat → EV → Pl → Nat → Hp → Prop) : Prop where
  ext : ∀ {i src ρ m H ρ' m' H'}, Ext ρ m H ρ' m' H' → F i src ρ m H → F i src ρ' m' H'
  upd : ∀ {i src ρ m H p o}, (∀ vs, H p ≠ some (.tup vs)) → Off ρ m p → F i src ρ m H → F i src ρ m (upd H p o)
  turn : ∀ {i src ρ m h H}, F i src ρ m H → S Y ρ m h H → ∀ {α : Type} (d : α) (P : α → Prop) (k : EV → EV → α) (stop : α), ¬ P d → P (stepW d src i h k stop) →
    (J.stop i H ∧ P stop) ∨ (J.go i H ∧ ∃ v src', P (k v src') ∧ ∀ x H', J.yld i H x H' → Ext ρ m H ρ m H' ∧ S Y ρ m h H' ∧ R Y ρ m H' v x ∧ F (i + 1) src' ρ m H')
section
variable {Y : Fix} {ρ : Pl} {m : Nat} {h : Tr} {H : Hp}
theorem nthK_of {α : Type} {d stop : α} {P : α → Prop} (hb : ¬ P d) : ∀ (xs : EV) (vs : List V) (i : Nat) (k : EV → α), RL Y ρ m H xs vs → P (nthK d stop xs i k) → (vs.length ≤ i ∧ P stop) ∨ ∃ v x, vs[i]? = some x ∧ R Y ρ m H v x ∧ P (k v)
  | xs, [], i, k, rl, p => by
    cases rl.nil_of
    exact .inl ⟨Nat.zero_le _, p⟩
  | xs, x :: vs, 0, k, rl, p => by
    obtain ⟨v, t, e, rv, rt⟩ := rl.cons_of
    subst e
    exact .inr ⟨v, x, rfl, rv, p⟩
  | xs, x :: vs, i + 1, k, rl, p => by
    obtain ⟨v, t, e, rv, rt⟩ := rl.cons_of
    subst e
    rcases nthK_of hb t vs i k rt p with ⟨h1, h2⟩ | h
    · exact .inl ⟨Nat.succ_le_succ h1, h2⟩
    · exact .inr h
/-- a tuple's rest at turn i, or a list of the store: the items at a -/
def Sub (Y : Fix) (lst : Bool) (a : Addr) (i : Nat) (src : EV) (ρ : Pl) (m : Nat) (H : Hp) : Prop := match lst with
  | true => ∃ j, src = .ref j ∧ j < m ∧ ρ j = a
  | false => ∃ xs vs, src = .tup xs ∧ H a = some (.tup vs) ∧ Off ρ m a ∧ RL Y ρ m H xs (vs.drop i)
theorem Sub.ext {b : Bool} {a : Addr} {i : Nat} {src : EV} {ρ' m' H'} (e : Ext ρ m H ρ' m' H') (f : Sub Y b a i src ρ m H) : Sub Y b a i src ρ' m' H' := by
  cases b with
  | true => obtain ⟨j, e1, h1, h2⟩ := f; exact ⟨j, e1, Nat.lt_of_lt_of_le h1 e.le, by rw [e.eq j h1]; exact h2⟩
  | false => obtain ⟨xs, vs, e1, h1, h2, h3⟩ := f; exact ⟨xs, vs, e1, e.keep _ _ h1 h2, e.off h1 h2, RL.mono e h3⟩
theorem Sub.upd {b : Bool} {a : Addr} {i : Nat} {src : EV} {p : Addr} {o : HO} (hp : ∀ vs, H p ≠ some (.tup vs)) (f : Sub Y b a i src ρ m H) : Sub Y b a i src ρ m (L2.upd H p o) := by
  cases b with
  | true => exact f
  | false => obtain ⟨xs, vs, e1, h1, h2, h3⟩ := f; exact ⟨xs, vs, e1, by rw [upd_ne (fun z => hp vs (by rw [← z]; exact h1))]; exact h1, h2, (RR.upd hp _).2 _ h3⟩
/-- the items there -/
def SubV (K : PySem.W.Frag) (b : Bool) (a : Addr) (H : Hp) (vs : List V) : Prop := match b with
  | true => SqL K H a vs
  | false => SqT K H a vs
theorem Sub.turn {Kf : PySem.W.Frag} {b : Bool} {a : Addr} {i : Nat} {src : EV} (f : Sub Y b a i src ρ m H) (s : S Y ρ m h H) {α : Type} {d : α} {P : α → Prop} {k : EV → EV → α} {stop : α} (hb : ¬ P d) (p : P (subW d src i h k stop)) :
    ∃ vs, SubV Kf b a H vs ∧ ((vs.length ≤ i ∧ P stop) ∨ ∃ v src' x, vs[i]? = some x ∧ R Y ρ m H v x ∧ P (k v src') ∧ Sub Y b a (i + 1) src' ρ m H) := by
  cases b with
  | true =>
    obtain ⟨j, rfl, hj, e⟩ := f
    obtain ⟨xs, vs, ho, hv, rv, p⟩ := onLst_of hb s hj (show P (onLst d (fun xs => nthK d stop xs i fun x => k x (.ref j)) (tget h j)) from p)
    refine ⟨vs, by rw [← e]; exact SqL.of hv, ?_⟩
    rcases nthK_of hb xs vs i _ rv p with h1 | ⟨v, x, h1, h2, h3⟩
    · exact .inl h1
    · exact .inr ⟨v, .ref j, x, h1, h2, h3, j, rfl, hj, e⟩
  | false =>
    obtain ⟨xs, vs, rfl, ha, hf, rl⟩ := f
    refine ⟨vs, SqT.of ha, ?_⟩
    have p' : P (elist d stop (fun x r _ => k x (.tup r)) xs) := p
    by_cases hl : vs.length ≤ i
    · rw [List.drop_eq_nil_of_le hl] at rl
      cases rl.nil_of
      exact .inl ⟨hl, p'⟩
    · have hi : i < vs.length := by omega
      rw [List.drop_eq_getElem_cons hi] at rl
      obtain ⟨v, t, e, rv, rt⟩ := rl.cons_of
      subst e
      exact .inr ⟨v, .tup t, vs[i], List.getElem?_eq_getElem hi, rv, p', t, vs, rfl, ha, hf, rt⟩
end
section
variable {Y : Fix} {ρ : Pl} {m : Nat} {h : Tr} {H : Hp}
/-- a list of the store, by its place -/
theorem walk_list {Kf : PySem.W.Frag} {a : Addr} : Walk Y (Itl Kf a) (Sub Y true a) where
  ext := fun e f => f.ext e
  upd := fun hp _ f => f.upd hp
  turn := fun {i src ρ m h H} f s α d P k stop hb p => by
    have f' := f
    obtain ⟨j, rfl, hj, e⟩ := f'
    obtain ⟨vs, hv, q⟩ := Sub.turn (Kf := Kf) f s hb (show P (subW d (.ref j) i h k stop) from p)
    rcases q with ⟨h1, h2⟩ | ⟨v, src', x, h1, h2, h3, h4⟩
    · exact .inl ⟨⟨vs, hv, h1⟩, h2⟩
    · refine .inr ⟨⟨vs, x, hv, h1⟩, v, src', h3, fun x' H' y => ?_⟩
      obtain ⟨rfl, y2⟩ := y
      have := y2 vs hv
      rw [h1] at this
      cases this
      exact ⟨Ext.refl, s, h2, h4⟩
theorem walk_tup {Kf : PySem.W.Frag} {a : Addr} : Walk Y (Itt Kf a) (Sub Y false a) where
  ext := fun e f => f.ext e
  upd := fun hp _ f => f.upd hp
  turn := fun {i src ρ m h H} f s α d P k stop hb p => by
    have f' := f
    obtain ⟨xs, ws, rfl, ha, hf, rl⟩ := f'
    obtain ⟨vs, hv, q⟩ := Sub.turn (Kf := Kf) f s hb (show P (subW d (.tup xs) i h k stop) from p)
    rcases q with ⟨h1, h2⟩ | ⟨v, src', x, h1, h2, h3, h4⟩
    · exact .inl ⟨⟨vs, hv, h1⟩, h2⟩
    · refine .inr ⟨⟨vs, x, hv, h1⟩, v, src', h3, fun x' H' y => ?_⟩
      obtain ⟨rfl, y2⟩ := y
      have := y2 vs hv
      rw [h1] at this
      cases this
      exact ⟨Ext.refl, s, h2, h4⟩
/-- items that are told: no heap -/
def Told (Y : Fix) (vs : List V) (i : Nat) (src : EV) (ρ : Pl) (m : Nat) (H : Hp) : Prop := ∃ xs, src = .tup xs ∧ RL Y ρ m H xs (vs.drop i)
theorem walk_told {J : It} {vs : List V} (go : ∀ i H, i < vs.length → J.go i H) (yld : ∀ i H x H', J.yld i H x H' → H' = H ∧ (i < vs.length → vs[i]? = some x)) (stop : ∀ i H, vs.length ≤ i → J.stop i H) : Walk Y J (Told Y vs) where
  ext := fun e ⟨xs, h1, h2⟩ => ⟨xs, h1, RL.mono e h2⟩
  upd := fun hp _ ⟨xs, h1, h2⟩ => ⟨xs, h1, (RR.upd hp _).2 _ h2⟩
  turn := fun {i src ρ m h H} f s α d P k stp hb p => by
    obtain ⟨xs, rfl, rl⟩ := f
    have p' : P (elist d stp (fun x r _ => k x (.tup r)) xs) := p
    by_cases hl : vs.length ≤ i
    · rw [List.drop_eq_nil_of_le hl] at rl
      cases rl.nil_of
      exact .inl ⟨stop i H hl, p'⟩
    · have hi : i < vs.length := by omega
      rw [List.drop_eq_getElem_cons hi] at rl
      obtain ⟨v, t, e, rv, rt⟩ := rl.cons_of
      subst e
      refine .inr ⟨go i H hi, v, .tup t, p', fun x H' y => ?_⟩
      obtain ⟨rfl, y2⟩ := yld i H x H' y
      have := y2 hi
      rw [List.getElem?_eq_getElem hi] at this
      cases this
      exact ⟨Ext.refl, s, rv, t, rfl, rt⟩
theorem walk_range {lo : Int} {n : Nat} : Walk Y (Itr lo n) (Told Y ((List.range n).map fun i => V.int (lo + (i : Nat)))) :=
  walk_told (fun i H hi => by rw [List.length_map, List.length_range] at hi; exact hi) (fun i H x H' y => ⟨y.1, fun hi => by
    rw [List.length_map, List.length_range] at hi
    rw [List.getElem?_map, List.getElem?_range hi, y.2]; rfl⟩) fun i H hi => by rw [List.length_map, List.length_range] at hi; exact hi
/-- enumerate of a list -/
def Enu (Y : Fix) (b : Bool) (a : Addr) (i : Nat) (src : EV) (ρ : Pl) (m : Nat) (H : Hp) : Prop := ∃ r, src = .cons (.ch 1) r ∧ Sub Y b a i r ρ m H
theorem new_tup {x : List V} {p : Addr} {e : EV} (s : S Y ρ m h H) (hp : H p = none) (r : RL Y ρ m H e x) : Ext ρ m H ρ m (upd H p (.tup x)) ∧ S Y ρ m h (upd H p (.tup x)) ∧ R Y ρ m (upd H p (.tup x)) (.tup e) (.ref p) := ⟨Ext.laid hp, s.laid hp, R.tup s hp r⟩
theorem walk_enum {Kf : PySem.W.Frag} {a : Addr} : Walk Y (Ite Kf a) (Enu Y true a) where
  ext := fun e ⟨r, h1, h2⟩ => ⟨r, h1, h2.ext e⟩
  upd := fun hp _ ⟨r, h1, h2⟩ => ⟨r, h1, h2.upd hp⟩
  turn := fun {i src ρ m h H} f s α d P k stop hb p => by
    obtain ⟨r, rfl, f⟩ := f
    have p' : P (subW d r i h (fun x r' => k (.tup (.cons (.int (.ofNat i)) (.cons x .nil))) (.cons (.ch 1) r')) stop) := p
    obtain ⟨vs, hv, q⟩ := Sub.turn (Kf := Kf) f s hb p'
    rcases q with ⟨h1, h2⟩ | ⟨v, src', x, h1, h2, h3, h4⟩
    · exact .inl ⟨⟨vs, hv, h1⟩, h2⟩
    · refine .inr ⟨⟨vs, x, hv, h1⟩, _, _, h3, fun x' H' y => ?_⟩
      obtain ⟨T, x2, rfl, hT, rfl, y2⟩ := y
      have := y2 vs hv
      rw [h1] at this
      cases this
      obtain ⟨a1, a2, a3⟩ := new_tup (e := .cons (.int (.ofNat i)) (.cons v .nil)) s hT (RL.cons (x := .int (i : Nat)) rfl (RL.cons h2 RL.nil))
      exact ⟨a1, a2, a3, src', rfl, h4.ext a1⟩
/-- zip of two lists, of two tuples -/
def Zp (Y : Fix) (b : Bool) (a a' : Addr) (i : Nat) (src : EV) (ρ : Pl) (m : Nat) (H : Hp) : Prop := ∃ r r', src = .cons (.ch 2) (.cons r r') ∧ Sub Y b a i r ρ m H ∧ Sub Y b a' i r' ρ m H
theorem zp_turn {J : It} {Kf : PySem.W.Frag} {b : Bool} {a a' : Addr} (go : ∀ i H xs ys x y, SubV Kf b a H xs → SubV Kf b a' H ys → xs[i]? = some x → ys[i]? = some y → J.go i H)
    (yld : ∀ i H v H', J.yld i H v H' → ∃ T x y, v = .ref T ∧ H T = none ∧ H' = upd H T (.tup [x, y]) ∧ (∀ xs, SubV Kf b a H xs → xs[i]? = some x) ∧ ∀ ys, SubV Kf b a' H ys → ys[i]? = some y)
    (stp : ∀ i H xs ys, SubV Kf b a H xs → SubV Kf b a' H ys → (xs.length ≤ i ∨ ys.length ≤ i) → J.stop i H) : Walk Y J (Zp Y b a a') where
  ext := fun e ⟨r, r', h1, h2, h3⟩ => ⟨r, r', h1, h2.ext e, h3.ext e⟩
  upd := fun hp _ ⟨r, r', h1, h2, h3⟩ => ⟨r, r', h1, h2.upd hp, h3.upd hp⟩
  turn := fun {i src ρ m h H} f s α d P k stop hb p => by
    obtain ⟨r, r', rfl, f, f'⟩ := f
    have p' : P (subW d r i h (fun x r1' => subW d r' i h (fun y r2' => k (.tup (.cons x (.cons y .nil))) (.cons (.ch 2) (.cons r1' r2'))) stop) (subW d r' i h (fun _ _ => stop) stop)) := p
    obtain ⟨vs, hv, q⟩ := Sub.turn (Kf := Kf) f s hb p'
    rcases q with ⟨h1, h2⟩ | ⟨v, src', x, h1, h2, h3, h4⟩
    · obtain ⟨ws, hw, q⟩ := Sub.turn (Kf := Kf) f' s hb h2
      refine .inl ⟨stp i H vs ws hv hw (.inl h1), ?_⟩
      rcases q with ⟨_, q⟩ | ⟨_, _, _, _, _, q, _⟩
      · exact q
      · exact q
    · obtain ⟨ws, hw, q⟩ := Sub.turn (Kf := Kf) f' s hb h3
      rcases q with ⟨g1, g2⟩ | ⟨v2, src2, x2, g1, g2, g3, g4⟩
      · exact .inl ⟨stp i H vs ws hv hw (.inr g1), g2⟩
      · refine .inr ⟨go i H vs ws x x2 hv hw h1 g1, _, _, g3, fun x' H' y => ?_⟩
        obtain ⟨T, u, u2, rfl, hT, rfl, y1, y2⟩ := yld i H x' H' y
        have e1 := y1 vs hv
        rw [h1] at e1
        cases e1
        have e2 := y2 ws hw
        rw [g1] at e2
        cases e2
        obtain ⟨a1, a2, a3⟩ := new_tup (e := .cons v (.cons v2 .nil)) s hT (RL.cons h2 (RL.cons g2 RL.nil))
        exact ⟨a1, a2, a3, src', src2, rfl, h4.ext a1, g4.ext a1⟩
/-! ### sources -/
section
variable (Y : Fix) (CV : Nat → Value) (W : WX)
def tW (c : CE) : TI := fun σ H Rr => ∃ l h m ρ, S Y ρ m h H ∧ LR Y ρ m H l σ ∧ PostE Y CV W σ ρ m H (c l h m) fun ρ' m' _ H' v => ∀ J F, Walk Y J F → F 0 v ρ' m' H' → Rr J H'
end
/-- a list or a tuple -/
noncomputable def cSeq (c : CE) : CE := fun l h m => bindE (c l h m) fun v h m => EV.rec (motive := fun _ => RE) .bad (fun _ => .bad) (fun _ => .bad) (fun _ _ => .bad) .bad (fun _ _ _ _ => .bad) (fun xs _ => .ok (.tup xs) h m) (fun _ _ => .bad) (fun a => onLst .bad (fun _ => .ok (.ref a) h m) (tget h a)) (fun _ => .bad) (fun _ => .bad) v
noncomputable def rangeK {α : Type} (n : Nat) : Int → (EV → α) → α := Nat.rec (motive := fun _ => Int → (EV → α) → α) (fun _ k => k .nil)
  (fun _ ih a k => Int.rec (motive := fun _ => α) (fun a0 => forceN (Nat.succ a0) fun a1 => ih (.ofNat a1) fun z => k (.cons (.int a) z)) (fun _ => ih (a + 1) fun z => k (.cons (.int a) z)) a) n
theorem rangeK_eq {α : Type} : ∀ (n : Nat) (a : Int) (k : EV → α), ∃ z, rangeK n a k = k z ∧ ∀ (Y : Fix) ρ m H, RL Y ρ m H z ((List.range n).map fun i => V.int (a + (i : Nat)))
  | 0, a, k => ⟨.nil, rfl, fun _ _ _ _ => rfl⟩
  | n + 1, a, k => by
    obtain ⟨z, e, q⟩ := rangeK_eq n (a + 1) (fun z => k (.cons (.int a) z))
    refine ⟨.cons (.int a) z, ?_, fun Y ρ m H => ?_⟩
    · rw [← e]
      cases a with
      | ofNat a0 =>
        show forceN (Nat.succ a0) (fun a1 => rangeK n (.ofNat a1) fun z => k (.cons (.int (.ofNat a0)) z)) = _
        rw [forceN_eq]
        rfl
      | negSucc a0 => rfl
    · rw [List.range_succ_eq_map, List.map_cons, List.map_map]
      refine ⟨_, _, rfl, by show V.int _ = V.int _; congr 1; simp, ?_⟩
      have := q Y ρ m H
      have e2 : (List.range n).map ((fun i : Nat => V.int (a + (i : Nat))) ∘ Nat.succ) = (List.range n).map fun i => V.int (a + 1 + (i : Nat)) := by
        refine List.map_congr_left fun i _ => ?_
        show V.int (a + ((i + 1 : Nat) : Int)) = _
        congr 1
        omega
      rw [e2]
      exact this
noncomputable def cRg1 (b : CE) : CE := fun l h m => bindE (b l h m) fun y h m => onInt .bad (fun j => Bool.rec (motive := fun _ => RE) .bad (rangeK j.toNat 0 fun e => .ok (.tup e) h m) (Nat.ble j.natAbs 100000000)) y
noncomputable def cRg2 (a b : CE) : CE := fun l h m => bindE (a l h m) fun x h m => bindE (b l h m) fun y h m => onInt .bad (fun i => onInt .bad (fun j => Bool.rec (motive := fun _ => RE) .bad (rangeK (Int.sub j i).toNat i fun e => .ok (.tup e) h m) (Nat.ble (Nat.add i.natAbs j.natAbs) 100000000)) y) x
noncomputable def cEnu (c : CE) : CE := fun l h m => bindE (c l h m) fun v h m => onRef .bad (fun a => onLst .bad (fun _ => .ok (.cons (.ch 1) (.ref a)) h m) (tget h a)) v
section
variable {Y : Fix} {X : Cx} {CV : Nat → Value} {W : WX} {pos p p2 tpos : Pos} {tg iter : Expr} {kk : Nat} {elts : List Expr}
theorem dp_seq {c : CE} (hi : PE X iter (tE Y CV W c)) : PI X tg iter (tW Y CV W (cSeq c)) := by
  refine pi_mono (pi_either (pi_list hi) (pi_tup hi)) fun σ H Rr ⟨l, h, m, ρ, s, lr, p⟩ => ?_
  have p' := PostE.bind p
  cases z : c l h m with
  | bad => rw [z] at p'; exact p'.elim
  | exc k q h1 m1 => exact .inl ⟨l, h, m, ρ, s, lr, by rw [z] at p' ⊢; exact p'⟩
  | ok v h1 m1 =>
    rw [z] at p'
    cases v with
    | tup xs =>
      refine .inr ⟨l, h, m, ρ, s, lr, ?_⟩
      rw [z]
      intro g1 H1 e1 s1 x ⟨a, vs, ex, ha, na, rl⟩
      exact ⟨a, ex, ⟨vs, SqT.of ha⟩, post_ok s1 (p' g1 H1 e1 s1) (Itt X.K a) (Sub Y false a) walk_tup ⟨xs, vs, rfl, ha, na, rl⟩⟩
    | ref i =>
      refine .inl ⟨l, h, m, ρ, s, lr, ?_⟩
      rw [z]
      intro g1 H1 e1 s1 x ⟨hi, ex⟩
      obtain ⟨xs, vs, ho, hv, rv, q⟩ := onLst_E s1 hi (p' g1 H1 e1 s1)
      exact ⟨g1 i, ex, ⟨vs, SqL.of hv⟩, post_ok s1 q (Itl X.K (g1 i)) (Sub Y true (g1 i)) walk_list ⟨i, rfl, hi, rfl⟩⟩
    | _ => exact .inl ⟨l, h, m, ρ, s, lr, by rw [z]; exact fun g1 H1 e1 s1 => (p' g1 H1 e1 s1).elim⟩
theorem dp_rg1 {ia : Expr} {ca : CE} (hr : Gl X "range") (hm : X.mg "range" = none) (hp : plainE ia = true) (ha : PE X ia (tE Y CV W ca)) : PI X tg (.Call (.Name "range" p) [ia] [] p2) (tW Y CV W (cRg1 ca)) := by
  have hse : starEach [ia] X.env = [(false, eval ia X.env)] := star_plain hp
  refine pi_mono (pi_range1 hr hm (pa_cons ha pa_nil hse) hse) fun σ H Rr ⟨l, h, m, ρ, s, lr, p⟩ => ⟨l, h, m, ρ, s, lr, PostE.mono (PostE.bind p) fun g1 m1 h1 H1 v e1 s1 p1 x rx => ?_⟩
  obtain ⟨j, rfl, rfl, q⟩ := onInt_E rx p1
  obtain ⟨z, q⟩ := bok_E q
  have hj := Nat.le_of_ble_eq_true z
  obtain ⟨e, ee, re⟩ := rangeK_eq (α := RE) j.toNat 0 fun e => .ok (.tup e) h1 m1
  rw [ee] at q
  exact ⟨j, rfl, by omega, by omega, post_ok s1 q _ _ walk_range ⟨e, rfl, re Y g1 m1 H1⟩⟩
theorem dp_rg2 {ia ib : Expr} {ca cb : CE} (hr : Gl X "range") (hm : X.mg "range" = none) (hp : plainE ia = true) (hp2 : plainE ib = true) (ha : PE X ia (tE Y CV W ca)) (hb : PE X ib (tE Y CV W cb)) :
    PI X tg (.Call (.Name "range" p) [ia, ib] [] p2) (tW Y CV W (cRg2 ca cb)) := by
  have hse2 : starEach [ib] X.env = [(false, eval ib X.env)] := star_plain hp2
  have hse : starEach [ia, ib] X.env = [(false, eval ia X.env), (false, eval ib X.env)] := by rw [star_plain hp, hse2]
  refine pi_mono (pi_range2 hr hm (pa_cons ha (pa_cons hb pa_nil hse2) (by rw [hse, hse2])) hse hse2) fun σ H Rr ⟨l, h, m, ρ, s, lr, p⟩ => ?_
  refine ⟨l, h, m, ρ, s, lr, PostE.mono (PostE.bind p) fun g1 m1 h1 H1 v e1 s1 p1 x rx => ?_⟩
  refine ⟨l, h1, m1, g1, s1, lr.mono e1, PostE.mono (PostE.bind p1) fun g2 m2 h2 H2 w e2 s2 p2 y ry => ?_⟩
  obtain ⟨i, rfl, rfl, q⟩ := onInt_E (R.mono e2 rx) p2
  obtain ⟨j, rfl, rfl, q⟩ := onInt_E ry q
  obtain ⟨z, q⟩ := bok_E q
  have hj : i.natAbs + j.natAbs ≤ 100000000 := Nat.le_of_ble_eq_true z
  obtain ⟨e, ee, re⟩ := rangeK_eq (α := RE) (Int.sub j i).toNat i fun e => .ok (.tup e) h2 m2
  rw [ee] at q
  exact ⟨i, j, rfl, ⟨by omega, by omega, by omega, by omega⟩, post_ok s2 q _ _ walk_range ⟨e, rfl, re Y g2 m2 H2⟩⟩
theorem dp_enu {ia : Expr} {ca : CE} (hr : Gl X "enumerate") (hm : X.mg "enumerate" = none) (hp : plainE ia = true) (ha : PE X ia (tE Y CV W ca)) : PI X (.Tuple elts kk tpos) (.Call (.Name "enumerate" p) [ia] [] p2) (tW Y CV W (cEnu ca)) := by
  have hse : starEach [ia] X.env = [(false, eval ia X.env)] := star_plain hp
  refine pi_mono (pi_enum hr hm (pa_cons ha pa_nil hse) hse) fun σ H Rr ⟨l, h, m, ρ, s, lr, p⟩ => ⟨l, h, m, ρ, s, lr, PostE.mono (PostE.bind p) fun g1 m1 h1 H1 v e1 s1 p1 x rx => ?_⟩
  obtain ⟨a, rfl, hi, rfl, q⟩ := onRef_E rx p1
  obtain ⟨xs, vs, ho, hv, rv, q⟩ := onLst_E s1 hi q
  exact ⟨g1 a, vs, rfl, SqL.of hv, post_ok s1 q (Ite X.K (g1 a)) (Enu Y true (g1 a)) walk_enum ⟨.ref a, rfl, a, rfl, hi, rfl⟩⟩
end
/-! ### for, while -/
noncomputable def forK (g : Gd) (body : CS) (n : Nat) : EV → Nat → CS := Nat.rec (motive := fun _ => EV → Nat → CS) (fun _ _ _ _ _ => .bad)
  (fun _ ih src i l h m => stepW RS.bad src i h (fun v src' => gset RS.bad g v l fun l => turnS (body l h m) fun l h m => forceN (Nat.succ i) fun i => ih src' i l h m) (.nx l h m)) n
noncomputable def sFor (g : Gd) (src : CE) (body : CS) : CS := fun l h m => bindES (src l h m) l fun s h m => forK g body 10000000 s 0 l h m
noncomputable def whK (c : CE) (body : CS) (n : Nat) : CS := Nat.rec (motive := fun _ => CS) (fun _ _ _ => .bad)
  (fun _ ih l h m => bindES (c l h m) l fun t h m => onBl .bad (fun b => Bool.rec (motive := fun _ => RS) (.nx l h m) (turnS (body l h m) ih) b) t) n
noncomputable def sWh (c : CE) (body : CS) : CS := whK c body 10000000
section
variable {Y : Fix} {X : Cx} {CV : Nat → Value} {W : WX} {pos : Pos} {tg iter : Expr}
/-- what a turn leads to: N holds where the loop goes on -/
theorem turn_of {ρ m H} {r : RS} {k : CS} {D : Ends} {N : L2.St → Hp → Prop} (p : PostS Y CV W ρ m H (turnS r k) D) (hN : ∀ l' h' m', PostS Y CV W ρ m H (k l' h' m') D → ∀ ρ' H' σ', Ext ρ m H ρ' m' H' → S Y ρ' m' h' H' → LR Y ρ' m' H' l' σ' → N σ' H') :
    PostS Y CV W ρ m H r { D with nx := N, ct := N, bk := D.nx } := by
  cases r with
  | nx l h m => exact hN l h m p
  | cnt l h m => exact hN l h m p
  | _ => exact p
theorem ds_for {body : List Stmt} {g : Gd} {src : CE} {cb : CS} (hok : g.ok.1 = true) (hp : PassesOwn (model X.prog X.w) X.A X.env X.xe) (hc : X.calm = true) (hi : PI X tg iter (tW Y CV W src)) (hg : PG X tg (g.rd X.K).1) (hb : PSs X body (tS Y CV W cb))
    (hs : ∀ x, foldedSetIterable iter X.env x = pure x) : PS X (.For tg iter body [] pos) (tS Y CV W (sFor g src cb)) := by
  refine ps_mono (ps_for hp hc hi hg hb hs) fun D σ H ⟨l, h, m, ρ, s, lr, p⟩ => ⟨l, h, m, ρ, s, lr, PostE.mono (PostS.bind lr p) fun g1 m1 h1 H1 v e1 s1 p1 J F wk f => ?_⟩
  refine ⟨fun i n σ H => ∃ l h m ρ src, S Y ρ m h H ∧ LR Y ρ m H l σ ∧ F i src ρ m H ∧ PostS Y CV W ρ m H (forK g cb n src i l h m) D, ⟨10000000, l, h1, m1, g1, v, s1, lr.mono e1, f, p1⟩, ?_⟩
  rintro i n σ H ⟨l, h, m, ρ, src, s, lr, f, p⟩
  cases n with
  | zero => exact (show False from p).elim
  | succ n =>
    rcases wk.turn f s RS.bad (fun r => PostS Y CV W ρ m H r D) _ _ (fun z => z) (show PostS Y CV W ρ m H (stepW RS.bad src i h (fun v src' => gset RS.bad g v l fun l => turnS (cb l h m) fun l h m => forceN (Nat.succ i) fun i => forK g cb n src' i l h m) (.nx l h m)) D from p) with ⟨h1, h2⟩ | ⟨h1, v, src', h2, h3⟩
    · exact .inl ⟨h1, h2 ρ H σ Ext.refl s lr⟩
    · refine .inr ⟨h1, fun σ' H' => ∃ l h m ρ src, S Y ρ m h H' ∧ LR Y ρ m H' l σ' ∧ F (i + 1) src ρ m H' ∧ PostS Y CV W ρ m H' (forK g cb n src (i + 1) l h m) D, fun σ' H' w => ⟨n, Nat.lt_succ_self _, w⟩, fun x H' y => ?_⟩
      obtain ⟨a1, a2, a3, a4⟩ := h3 x H' y
      refine ((gset_of (d := RS.bad) (P := fun r => PostS Y CV W ρ m H' r D) (fun z => z) g).1 hok v x l σ _ a3 (lr.mono a1) (PostS.shift h2 a1)).2 _ fun l' σ' lr' _ p' => ⟨l', h, m, ρ, a2, lr', ?_⟩
      refine turn_of p' fun l2 h2 m2 q ρ2 H2 σ2 e2 s2 lr2 => ⟨l2, h2, m2, ρ2, src', s2, lr2, wk.ext e2 a4, ?_⟩
      rw [forceN_eq] at q
      exact PostS.shift q e2
theorem ds_while {ec : Expr} {body : List Stmt} {c : CE} {cb : CS} (hp : PassesOwn (model X.prog X.w) X.A X.env X.xe) (hc : PT X ec (tT Y CV W c)) (hb : PSs X body (tS Y CV W cb)) : PS X (.While ec body [] pos) (tS Y CV W (sWh c cb)) := by
  refine ps_mono (ps_while hp hc hb) fun D σ H ⟨l, h, m, ρ, s, lr, p⟩ => ?_
  refine ⟨fun n σ H => ∃ l h m ρ, S Y ρ m h H ∧ LR Y ρ m H l σ ∧ PostS Y CV W ρ m H (whK c cb n l h m) D, ⟨10000000, l, h, m, ρ, s, lr, p⟩, ?_⟩
  rintro n σ H ⟨l, h, m, ρ, s, lr, p⟩
  cases n with
  | zero => exact (show False from p).elim
  | succ n =>
    refine ⟨l, h, m, ρ, s, lr, PostE.mono (PostS.bind lr p) fun g1 m1 h1 H1 v e1 s1 p1 => ?_⟩
    obtain ⟨b, rfl, p1⟩ := onBl_S' p1
    refine ⟨b, rfl, ?_⟩
    cases b with
    | false =>
      rw [if_neg Bool.false_ne_true]
      exact p1 g1 H1 σ Ext.refl s1 (lr.mono e1)
    | true =>
      rw [if_pos rfl]
      refine ⟨fun σ' H' => ∃ l h m ρ, S Y ρ m h H' ∧ LR Y ρ m H' l σ' ∧ PostS Y CV W ρ m H' (whK c cb n l h m) D, fun σ' H' w => ⟨n, Nat.lt_succ_self _, w⟩, l, h1, m1, g1, s1, lr.mono e1, ?_⟩
      exact turn_of p1 fun l2 h2 m2 q ρ2 H2 σ2 e2 s2 lr2 => ⟨l2, h2, m2, ρ2, s2, lr2, PostS.shift q e2⟩
end
end
end Dz

namespace Dz
open PySem L2
theorem iteT {A B : Prop} (h : A) : if true = true then A else B := by rw [if_pos rfl]; exact h
theorem iteF {A B : Prop} (h : B) : if false = true then A else B := by rw [if_neg Bool.false_ne_true]; exact h
/-- where an exception can't go -/
abbrev W0 : WX := fun _ _ _ _ => False
noncomputable def unK (r : RE) (l : LL) : Nat → RE := LL.rec (motive := fun _ => Nat → RE) (fun _ => .bad) (fun _ ih n => Nat.rec (motive := fun _ => RE) r (fun j _ => ih j) n) (fun _ _ ih n => Nat.rec (motive := fun _ => RE) .bad (fun j _ => ih j) n) l
noncomputable def unAll (l : LL) (r : RE) (is : List Nat) : RE := List.rec (motive := fun _ => RE) r (fun i _ ih => unK ih l i) is
theorem unK_of {P : RE → Prop} (hbad : ¬ P .bad) {r : RE} : ∀ (l : LL) (n : Nat), P (unK r l n) → (LLs l)[n]? = some none ∧ P r
  | .nil, n, p => absurd p hbad
  | .un l, 0, p => ⟨rfl, p⟩
  | .un l, n + 1, p => unK_of hbad l n p
  | .as x l, 0, p => absurd p hbad
  | .as x l, n + 1, p => unK_of hbad l n p
theorem unAll_of {P : RE → Prop} (hbad : ¬ P .bad) {r : RE} {l : LL} : ∀ (is : List Nat), P (unAll l r is) → (∀ i ∈ is, (LLs l)[i]? = some none) ∧ P r
  | [], p => ⟨fun _ z => (nomatch z), p⟩
  | i :: is, p => by
    obtain ⟨a, b⟩ := unK_of hbad l i (show P (unK (unAll l r is) l i) from p)
    obtain ⟨c, d⟩ := unAll_of hbad is b
    exact ⟨fun j hj => by
      rcases List.mem_cons.mp hj with e | e
      · subst e; exact a
      · exact c j e, d⟩
section
variable {Y : Fix}
theorem LR.wipe {ρ m H l σ} {is : List Nat} (r : LR Y ρ m H l σ) (h : ∀ i ∈ is, (LLs l)[i]? = some none) : LR Y ρ m H l (L2.wipe σ is) :=
  ⟨by rw [wipe_length]; exact r.len, fun i x q => by
    obtain ⟨v, a, b⟩ := r.get i x q
    refine ⟨v, ?_, b⟩
    rw [wipe_out (fun hi => by have z := h i hi; rw [q] at z; cases z)]
    exact a⟩
/-- a list that is made stands at D: it comes to the store -/
theorem adopt_RR {ρ : Pl} {m : Nat} {H : Hp} {D : Addr} {o : HO} (hD : H D = some o) (ho : ∀ vs, o ≠ .tup vs) : ∀ v : EV, (∀ x, R Y ρ m H v x → R Y (Pl.more ρ m D) (m + 1) H v x) ∧ (∀ xs, RL Y ρ m H v xs → RL Y (Pl.more ρ m D) (m + 1) H v xs)
  | .non => ⟨fun _ h => h, fun _ h => h⟩
  | .bl _ => ⟨fun _ h => h, fun _ h => h⟩
  | .int _ => ⟨fun _ h => h, fun _ h => h⟩
  | .str _ => ⟨fun _ h => h, fun _ h => h⟩
  | .nil => ⟨fun _ h => h, fun _ h => h⟩
  | .cons x xs => ⟨fun _ h => h, fun _ ⟨v, r, e1, h1, h2⟩ => ⟨v, r, e1, (adopt_RR hD ho x).1 _ h1, (adopt_RR hD ho xs).2 _ h2⟩⟩
  | .tup xs => ⟨fun _ ⟨a, vs, e1, h1, h2, h3⟩ => ⟨a, vs, e1, h1, fun i hi z => by
      by_cases q : i = m
      · rw [q, more_self] at z
        rw [← z, hD] at h1
        exact ho vs (Option.some.inj h1)
      · rw [more_old (by omega)] at z
        exact h2 i (by omega) z, (adopt_RR hD ho xs).2 _ h3⟩, fun _ h => h⟩
  | .lst _ => ⟨fun _ h => h, fun _ h => h⟩
  | .ref a => ⟨fun _ ⟨h1, h2⟩ => ⟨Nat.lt_succ_of_lt h1, by rw [more_old h1]; exact h2⟩, fun _ h => h⟩
  | .ch _ => ⟨fun _ h => h, fun _ h => h⟩
  | .cst _ => ⟨fun _ h => h, fun _ h => h⟩
theorem adopt_RF {ρ : Pl} {m : Nat} {H : Hp} {D : Addr} {o : HO} (hD : H D = some o) (ho : ∀ vs, o ≠ .tup vs) : ∀ (v : EV) (fs : List (Str × V)), RF Y ρ m H v fs → RF Y (Pl.more ρ m D) (m + 1) H v fs
  | .nil, fs, h => h
  | .cons (.cons (.ch f) v) r, fs, h => by
    obtain ⟨x, t, e1, h1, h2⟩ := h
    exact ⟨x, t, e1, (adopt_RR hD ho v).1 _ h1, adopt_RF hD ho r t h2⟩
theorem adopt_RD {ρ : Pl} {m : Nat} {H : Hp} {D : Addr} {o : HO} (hD : H D = some o) (ho : ∀ vs, o ≠ .tup vs) : ∀ (v : EV) (es : List Ent), RD Y ρ m H v es → RD Y (Pl.more ρ m D) (m + 1) H v es
  | .nil, es, h => h
  | .cons (.cons k v) r, es, h => by
    obtain ⟨ky, y, t, e1, k1, h2, h3⟩ := h
    exact ⟨ky, y, t, e1, k1, (adopt_RR hD ho v).1 _ h2, adopt_RD hD ho r t h3⟩
theorem adopt_RO {ρ : Pl} {m : Nat} {H : Hp} {D : Addr} {o : HO} (hD : H D = some o) (ho : ∀ vs, o ≠ .tup vs) {a : Addr} {u : EO} (r : RO Y ρ m H a u) : RO Y (Pl.more ρ m D) (m + 1) H a u := by
  cases u with
  | lst xs => obtain ⟨vs, q1, r1⟩ := r; exact ⟨vs, q1, (adopt_RR hD ho _).2 _ r1⟩
  | dct kvs => obtain ⟨es, q1, r1⟩ := r; exact ⟨es, q1, adopt_RD hD ho _ _ r1⟩
  | frz kvs => obtain ⟨o, es, q1, r1⟩ := r; exact ⟨o, es, q1, adopt_RD hD ho _ _ r1⟩
  | ins c fs => obtain ⟨dx, vf, q1, r1⟩ := r; exact ⟨dx, vf, q1, adopt_RF hD ho _ _ r1⟩
theorem adopt_S {ρ : Pl} {m : Nat} {h h' : Tr} {H : Hp} {D : Addr} {o : HO} {e : EO} (s : S Y ρ m h H) (hD : H D = some o) (ho : ∀ vs, o ≠ .tup vs) (hf : Off ρ m D) (ro : RO Y (Pl.more ρ m D) (m + 1) H D e) (ht : ∀ i, tget h' i = if i = m then some e else tget h i) : S Y (Pl.more ρ m D) (m + 1) h' H := by
  refine ⟨fun i j hi hj q => ?_, fun i hi => ?_⟩
  · by_cases a : i = m
    · by_cases b : j = m
      · omega
      · rw [a, more_self, more_old (by omega)] at q
        exact absurd q.symm (hf j (by omega))
    · by_cases b : j = m
      · rw [b, more_self, more_old (by omega)] at q
        exact absurd q (hf i (by omega))
      · rw [more_old (by omega), more_old (by omega)] at q
        exact s.inj i j (by omega) (by omega) q
  · by_cases a : i = m
    · subst a
      exact ⟨e, by rw [ht, if_pos rfl], by rw [more_self]; exact ro⟩
    · obtain ⟨u, hu, r⟩ := s.obj i (by omega)
      exact ⟨u, by rw [ht, if_neg a]; exact hu, by rw [more_old (by omega)]; exact adopt_RO hD ho r⟩
theorem adopt_Ext {ρ0 ρ : Pl} {m0 m : Nat} {H0 H : Hp} {D : Addr} (e : Ext ρ0 m0 H0 ρ m H) (h0 : H0 D = none) : Ext ρ0 m0 H0 (Pl.more ρ m D) (m + 1) H :=
  ⟨Nat.le_succ_of_le e.le, fun i hi => (more_old (Nat.lt_of_lt_of_le hi e.le)).trans (e.eq i hi), fun i a b => by
    by_cases q : i = m
    · rw [q, more_self]; exact h0
    · rw [more_old (by omega)]; exact e.new i a (by omega), e.keep, e.dom, e.frz⟩
end
/-! ### list comprehensions -/
/-- acc (from the end) grows by a turn each; k: what follows -/
noncomputable def accK (g : Gd) (cond elt : CE) (l : LL) (n : Nat) : EV → Nat → EV → Tr → Nat → (EV → Tr → Nat → RE) → RE := Nat.rec (motive := fun _ => EV → Nat → EV → Tr → Nat → (EV → Tr → Nat → RE) → RE) (fun _ _ _ _ _ _ => .bad)
  (fun _ ih src i acc h m k => stepW RE.bad src i h (fun v src' => gset RE.bad g v l fun l' => bindN (cond l' h m) fun t h m => onBl .bad (fun b => forceN (Nat.succ i) fun j => Bool.rec (motive := fun _ => RE) (ih src' j acc h m k)
    (bindN (elt l' h m) fun y h m => ih src' j (.cons y acc) h m k) b) t) (k acc h m)) n
noncomputable def finK (acc : EV) (h : Tr) (m : Nat) : RE := revK acc .nil fun xs => newK (.lst xs) h m
noncomputable def eLc (own : List Nat) (g : Gd) (src cond elt : CE) : CE := fun l h m => bindE (src l h m) fun s h m => unAll l (accK g cond elt l 10000000 s 0 .nil h m finK) own
/-- two clauses -/
noncomputable def acc2K (g : Gd) (cond : CE) (own1 : List Nat) (g1 : Gd) (src1 cond1 elt : CE) (l : LL) (n : Nat) : EV → Nat → EV → Tr → Nat → RE := Nat.rec (motive := fun _ => EV → Nat → EV → Tr → Nat → RE) (fun _ _ _ _ _ => .bad)
  (fun n ih src i acc h m => stepW RE.bad src i h (fun v src' => gset RE.bad g v l fun l' => bindN (cond l' h m) fun t h m => onBl .bad (fun b => forceN (Nat.succ i) fun j => Bool.rec (motive := fun _ => RE) (ih src' j acc h m)
    (bindN (src1 l' h m) fun s1 h m => unAll l' (accK g1 cond1 elt l' 4000 s1 0 acc h m fun acc h m => ih src' j acc h m) own1) b) t) (finK acc h m)) n
noncomputable def eLc2 (own : List Nat) (g : Gd) (src cond : CE) (own1 : List Nat) (g1 : Gd) (src1 cond1 elt : CE) : CE := fun l h m => bindE (src l h m) fun s h m => unAll l (acc2K g cond own1 g1 src1 cond1 elt l 4000 s 0 .nil h m) own
section
variable (Y : Fix) (CV : Nat → Value) (W : WX)
/-- the new list's state: acc holds its items from the end -/
structure AtD (ρ0 : Pl) (m0 : Nat) (H0 : Hp) (D : Addr) (B : Nat) (Z : Pl → Nat → Hp → Prop) (ρ : Pl) (m : Nat) (h : Tr) (H : Hp) (acc : EV) : Prop where
  ext : Ext ρ0 m0 H0 ρ m H
  s : S Y ρ m h H
  z : Z ρ m H
  d : ∃ av, H D = some (.lst av) ∧ RL Y ρ m H acc av.reverse ∧ av.length ≤ B
  off : Off ρ m D
/-- what stays while objects are made and what is none of them changes -/
structure Keeps (Z : Pl → Nat → Hp → Prop) : Prop where
  ext : ∀ {ρ m H ρ' m' H'}, Ext ρ m H ρ' m' H' → Z ρ m H → Z ρ' m' H'
  upd : ∀ {ρ m H p o}, (∀ vs, H p ≠ some (.tup vs)) → Off ρ m p → Z ρ m H → Z ρ m (L2.upd H p o)
end
section
variable {Y : Fix} {CV : Nat → Value} {W : WX} {ρ0 ρ ρ' : Pl} {m0 m m' : Nat} {H0 H H' : Hp} {D : Addr} {B : Nat} {Z : Pl → Nat → Hp → Prop} {h h' : Tr} {acc : EV}
theorem notTL {av : List V} (h : H D = some (.lst av)) : ∀ vs, H D ≠ some (.tup vs) := fun vs z => by rw [h] at z; cases z
theorem AtD.mono (w : AtD Y ρ0 m0 H0 D B Z ρ m h H acc) (k : Keeps Z) (e : Ext ρ m H ρ' m' H') (s : S Y ρ' m' h' H') : AtD Y ρ0 m0 H0 D B Z ρ' m' h' H' acc := by
  obtain ⟨av, d1, d2, d3⟩ := w.d
  exact ⟨w.ext.trans e, s, k.ext e w.z, ⟨av, e.keep _ _ d1 w.off, RL.mono e d2, d3⟩, e.off d1 w.off⟩
/-- one item more -/
theorem AtD.push (w : AtD Y ρ0 m0 H0 D B Z ρ m h H acc) (k : Keeps Z) (hD : H0 D = none) {v : EV} {y : V} (ry : R Y ρ m H v y) : ∃ av, H D = some (.lst av) ∧ av.length ≤ B ∧ AtD Y ρ0 m0 H0 D (B + 1) Z ρ m h (upd H D (.lst (av ++ [y]))) (.cons v acc) := by
  obtain ⟨av, d1, d2, d3⟩ := w.d
  refine ⟨av, d1, d3, Ext.offUpd d1 w.off hD w.ext, w.s.upd (notTL d1) w.off, k.upd (notTL d1) w.off w.z, ⟨_, upd_same, ?_, by rw [List.length_append]; exact Nat.succ_le_succ d3⟩, w.off⟩
  rw [List.reverse_append]
  exact RL.cons ((RR.upd (notTL d1) _).1 _ ry) ((RR.upd (notTL d1) _).2 _ d2)
theorem AtD.fin {σ : L2.St} {K : KE} (w : AtD Y ρ0 m0 H0 D B Z ρ m h H acc) (hD : H0 D = none) (p : PostE Y CV W σ ρ0 m0 H0 (finK acc h m) K) : ∃ h', K (Pl.more ρ m D) (m + 1) h' H (.ref m) ∧ R Y (Pl.more ρ m D) (m + 1) H (.ref m) (.ref D) := by
  obtain ⟨av, d1, d2, d3⟩ := w.d
  obtain ⟨z, ez, rz⟩ := unrev_of (α := RE) d2 fun xs => newK (.lst xs) h m
  have p' : PostE Y CV W σ ρ0 m0 H0 (revK acc .nil fun xs => newK (.lst xs) h m) K := p
  rw [ez] at p'
  unfold newK at p'
  rcases tsetK_eq (.lst z) RE.bad h m (fun h' => forceN (Nat.succ m) fun m' => .ok (.ref m) h' m') with ⟨h', ht, et⟩ | et
  · rw [et, forceN_eq] at p'
    have nt : ∀ vs, HO.lst av ≠ .tup vs := fun vs z => nomatch z
    exact ⟨h', p' _ _ (adopt_Ext w.ext hD) (adopt_S (e := .lst z) w.s d1 nt w.off ⟨av, d1, (adopt_RR d1 nt z).2 _ rz⟩ ht), Nat.lt_succ_self _, by rw [more_self]⟩
  · rw [et] at p'; exact p'.elim
/-- a turn of the accumulation -/
theorem acc_turn {Kf : PySem.W.Frag} {σ0 τ : L2.St} {K : KE} {J : It} {F : Nat → EV → Pl → Nat → Hp → Prop} {g : Gd} {cond elt : CE} {l : LL} {own : List Nat} {n i : Nat} {src : EV} {k : EV → Tr → Nat → RE} (wk : Walk Y J F) (kz : Keeps Z) (hD : H0 D = none) (hok : g.ok.1 = true) (hown : ∀ j ∈ g.slots, j ∈ own) (hB : B < 16000000)
    (w : AtD Y ρ0 m0 H0 D B Z ρ m h H acc) (lr : LR Y ρ m H l (L2.wipe τ own)) (f : F i src ρ m H) (p : PostE Y CV W σ0 ρ0 m0 H0 (accK g cond elt l (n + 1) src i acc h m k) K) :
    (J.stop i H ∧ PostE Y CV W σ0 ρ0 m0 H0 (k acc h m) K) ∨ (J.go i H ∧ ∀ x H', J.yld i H x H' → (g.rd Kf).1 x (L2.wipe τ own) H' fun σ2 H2 => L2.wipe σ2 own = L2.wipe τ own ∧ tT Y CV W0 cond σ2 H2 fun b H3 =>
      if b = true then tE Y CV W0 elt σ2 H3 fun y H4 => ∃ av, H4 D = some (.lst av) ∧ av.length < sizeLine ∧ ∃ ρ m h src acc, AtD Y ρ0 m0 H0 D (B + 1) Z ρ m h (upd H4 D (.lst (av ++ [y]))) acc ∧ LR Y ρ m (upd H4 D (.lst (av ++ [y]))) l (L2.wipe τ own) ∧ F (i + 1) src ρ m (upd H4 D (.lst (av ++ [y]))) ∧ PostE Y CV W σ0 ρ0 m0 H0 (accK g cond elt l n src (i + 1) acc h m k) K
      else ∃ ρ m h src acc, AtD Y ρ0 m0 H0 D (B + 1) Z ρ m h H3 acc ∧ LR Y ρ m H3 l (L2.wipe τ own) ∧ F (i + 1) src ρ m H3 ∧ PostE Y CV W σ0 ρ0 m0 H0 (accK g cond elt l n src (i + 1) acc h m k) K) := by
  rcases wk.turn f w.s RE.bad (fun r => PostE Y CV W σ0 ρ0 m0 H0 r K) _ _ (fun z => z) (show PostE Y CV W σ0 ρ0 m0 H0 (stepW RE.bad src i h (fun v src' => gset RE.bad g v l fun l' => bindN (cond l' h m) fun t h m => onBl .bad (fun b => forceN (Nat.succ i) fun j => Bool.rec (motive := fun _ => RE) (accK g cond elt l n src' j acc h m k)
    (bindN (elt l' h m) fun y h m => accK g cond elt l n src' j (.cons y acc) h m k) b) t) (k acc h m)) K from p) with q | ⟨h1, v, src', h2, h3⟩
  · exact .inl q
  refine .inr ⟨h1, fun x H' y => ?_⟩
  obtain ⟨a1, a2, a3, a4⟩ := h3 x H' y
  have w1 := w.mono kz a1 a2
  have lr1 := lr.mono a1
  refine ((gset_of (d := RE.bad) (P := fun r => PostE Y CV W σ0 ρ0 m0 H0 r K) (fun z => z) g).1 hok v x l (L2.wipe τ own) _ a3 lr1 h2).2 _ fun l' σ' lr' hw p' => ⟨by rw [hw own hown]; exact List.ext_getElem? fun k => wipe_wipe own own (fun _ z => z) k, ?_⟩
  refine ⟨l', h, m, ρ, a2, lr', PostE.mono (PostE.bindN p') fun ρ3 m3 h3 H3 t e3 s3 p3 => ?_⟩
  obtain ⟨b, et, q⟩ := onBl_E' p3
  rw [forceN_eq] at q
  refine ⟨b, et, ?_⟩
  have w3 := w1.mono kz e3 s3
  cases b with
  | false =>
    refine iteF ?_
    obtain ⟨av, d1, d2, d3⟩ := w3.d
    exact ⟨ρ3, m3, h3, src', acc, ⟨w3.ext, w3.s, w3.z, ⟨av, d1, d2, Nat.le_succ_of_le d3⟩, w3.off⟩, lr1.mono e3, wk.ext e3 a4, q⟩
  | true =>
    refine iteT ?_
    refine ⟨l', h3, m3, ρ3, s3, lr'.mono e3, PostE.mono (PostE.bindN q) fun ρ4 m4 h4 H4 u e4 s4 p4 y ry => ?_⟩
    have w4 := w3.mono kz e4 s4
    obtain ⟨av, d1, d2, w5⟩ := w4.push kz hD ry
    have e34 := e3.trans e4
    exact ⟨av, d1, by have := small16 (n := av.length) (by omega); exact this, ρ4, m4, h4, src', .cons u acc, w5, (lr1.mono e34).upd (notTL d1), wk.upd (notTL d1) w4.off (wk.ext e34 a4), p4⟩
theorem keeps_yes : Keeps fun _ _ _ => True := ⟨fun _ _ => trivial, fun _ _ _ => trivial⟩
theorem AtD.start {ρ : Pl} {m : Nat} {h : Tr} {H : Hp} {D : Addr} (s : S Y ρ m h H) (hD : H D = none) : AtD Y ρ m H D 0 (fun _ _ _ => True) ρ m h (upd H D (.lst [])) .nil :=
  ⟨Ext.laid hD, s.laid hD, trivial, ⟨[], upd_same, RL.nil, Nat.le_refl _⟩, s.off hD⟩
/-- [elt for target in iter if ..] -/
theorem te_lc {Kf : PySem.W.Frag} {own : List Nat} {g : Gd} {src cond elt : CE} (hok : g.ok.1 = true) (hown : ∀ j ∈ g.slots, j ∈ own) {σ : L2.St} {H : Hp} {Q : VK} (t : tE Y CV W (eLc own g src cond elt) σ H Q) :
    tLc (tW Y CV W src) (g.rd Kf).1 (tT Y CV W0 cond) (tE Y CV W0 elt) own σ H Q := by
  obtain ⟨l, h, m, ρ, s, lr, p⟩ := t
  refine ⟨l, h, m, ρ, s, lr, PostE.mono (PostE.bind p) fun g1 m1 h1 H1 v e1 s1 p1 J F wk f D hD => ?_⟩
  obtain ⟨hu, p1⟩ := unAll_of (P := fun r => PostE Y CV W σ g1 m1 H1 r fun ρ' m' _ H' v => ∀ x, R Y ρ' m' H' v x → Q x H') (fun z => z) own p1
  have lrw := (lr.mono e1).wipe hu
  refine ⟨fun i n H => i + n = 10000000 ∧ ∃ ρ m h src acc, AtD Y g1 m1 H1 D i (fun _ _ _ => True) ρ m h H acc ∧ LR Y ρ m H l (L2.wipe σ own) ∧ F i src ρ m H ∧ PostE Y CV W σ g1 m1 H1 (accK g cond elt l n src i acc h m finK) (fun ρ' m' _ H' v => ∀ x, R Y ρ' m' H' v x → Q x H'),
    ⟨10000000, by omega, g1, m1, h1, v, .nil, AtD.start s1 hD, lrw.mono (Ext.laid hD), wk.ext (Ext.laid hD) f, p1⟩, ?_⟩
  rintro i n H ⟨hin, ρ, m, h, src, acc, w, lr, f, p⟩
  cases n with
  | zero => exact (show False from p).elim
  | succ n =>
    rcases acc_turn (Kf := Kf) wk keeps_yes hD hok hown (by omega) w lr f p with ⟨q1, q2⟩ | ⟨q1, q2⟩
    · obtain ⟨h', kk, rr⟩ := w.fin hD q2
      exact .inl ⟨q1, kk _ rr⟩
    · exact .inr ⟨q1, fun H' => ∃ ρ m h src acc, AtD Y g1 m1 H1 D (i + 1) (fun _ _ _ => True) ρ m h H' acc ∧ LR Y ρ m H' l (L2.wipe σ own) ∧ F (i + 1) src ρ m H' ∧ PostE Y CV W σ g1 m1 H1 (accK g cond elt l n src (i + 1) acc h m finK) (fun ρ' m' _ H' v => ∀ x, R Y ρ' m' H' v x → Q x H'),
        fun H' w => ⟨n, Nat.lt_succ_self _, by omega, w⟩, q2⟩
theorem AtD.up {B' : Nat} (w : AtD Y ρ0 m0 H0 D B Z ρ m h H acc) (hB : B ≤ B') : AtD Y ρ0 m0 H0 D B' Z ρ m h H acc := by
  obtain ⟨av, d1, d2, d3⟩ := w.d
  exact ⟨w.ext, w.s, w.z, ⟨av, d1, d2, Nat.le_trans d3 hB⟩, w.off⟩
theorem AtD.to {Z' : Pl → Nat → Hp → Prop} (w : AtD Y ρ0 m0 H0 D B Z ρ m h H acc) (z : Z' ρ m H) : AtD Y ρ0 m0 H0 D B Z' ρ m h H acc := ⟨w.ext, w.s, z, w.d, w.off⟩
/-- .. for .. for .. -/
theorem te_lc2 {Kf : PySem.W.Frag} {own own1 : List Nat} {g g1 : Gd} {src cond src1 cond1 elt : CE} (hok : g.ok.1 = true) (hown : ∀ j ∈ g.slots, j ∈ own) (hok1 : g1.ok.1 = true) (hown1 : ∀ j ∈ g1.slots, j ∈ own1) {σ : L2.St} {H : Hp} {Q : VK} (t : tE Y CV W (eLc2 own g src cond own1 g1 src1 cond1 elt) σ H Q) :
    tLc2 (tW Y CV W src) (g.rd Kf).1 (tT Y CV W0 cond) (tW Y CV W0 src1) (g1.rd Kf).1 (tT Y CV W0 cond1) (tE Y CV W0 elt) own own1 σ H Q := by
  obtain ⟨l, h, m, ρ, s, lr, p⟩ := t
  refine ⟨l, h, m, ρ, s, lr, PostE.mono (PostE.bind p) fun ρ0 m0 h0 H0 v e1 s1 p1 J F wk f D hD => ?_⟩
  obtain ⟨hu, p1⟩ := unAll_of (P := fun r => PostE Y CV W σ ρ0 m0 H0 r fun ρ' m' _ H' v => ∀ x, R Y ρ' m' H' v x → Q x H') (fun z => z) own p1
  have lrw := (lr.mono e1).wipe hu
  refine ⟨fun i n H => i + n = 4000 ∧ ∃ ρ m h src acc, AtD Y ρ0 m0 H0 D (4000 * i) (fun ρ m H => F i src ρ m H) ρ m h H acc ∧ PostE Y CV W σ ρ0 m0 H0 (acc2K g cond own1 g1 src1 cond1 elt l n src i acc h m) (fun ρ' m' _ H' v => ∀ x, R Y ρ' m' H' v x → Q x H'),
    ⟨4000, by omega, ρ0, m0, h0, v, .nil, ((AtD.start s1 hD).up (Nat.zero_le _)).to (wk.ext (Ext.laid hD) f), p1⟩, ?_⟩
  rintro i n H ⟨hin, ρ, m, h, src, acc, w, p⟩
  cases n with
  | zero => exact (show False from p).elim
  | succ n =>
    rcases wk.turn w.z w.s RE.bad (fun r => PostE Y CV W σ ρ0 m0 H0 r fun ρ' m' _ H' v => ∀ x, R Y ρ' m' H' v x → Q x H') _ _ (fun z => z) (show PostE Y CV W σ ρ0 m0 H0 (stepW RE.bad src i h (fun v src' => gset RE.bad g v l fun l' => bindN (cond l' h m) fun t h m => onBl .bad (fun b => forceN (Nat.succ i) fun j => Bool.rec (motive := fun _ => RE) (acc2K g cond own1 g1 src1 cond1 elt l n src' j acc h m)
      (bindN (src1 l' h m) fun s1 h m => unAll l' (accK g1 cond1 elt l' 4000 s1 0 acc h m fun acc h m => acc2K g cond own1 g1 src1 cond1 elt l n src' j acc h m) own1) b) t) (finK acc h m)) _ from p) with ⟨q1, q2⟩ | ⟨q1, v, src', q2, q3⟩
    · obtain ⟨h', kk, rr⟩ := w.fin hD q2
      exact .inl ⟨q1, kk _ rr⟩
    · refine .inr ⟨q1, fun H' => ∃ ρ m h acc, AtD Y ρ0 m0 H0 D (4000 * (i + 1)) (fun ρ m H => F (i + 1) src' ρ m H) ρ m h H' acc ∧ PostE Y CV W σ ρ0 m0 H0 (acc2K g cond own1 g1 src1 cond1 elt l n src' (i + 1) acc h m) (fun ρ' m' _ H' v => ∀ x, R Y ρ' m' H' v x → Q x H'),
        fun H' ⟨ρ, m, h, acc, w, p⟩ => ⟨n, Nat.lt_succ_self _, by omega, ρ, m, h, src', acc, w, p⟩, fun x H' y => ?_⟩
      obtain ⟨a1, a2, a3, a4⟩ := q3 x H' y
      have kF : Keeps (fun ρ m H => F (i + 1) src' ρ m H) := ⟨fun e z => wk.ext e z, fun hp hf z => wk.upd hp hf z⟩
      have kF0 : Keeps (fun ρ m H => F i src ρ m H) := ⟨fun e z => wk.ext e z, fun hp hf z => wk.upd hp hf z⟩
      have w1 := (w.mono kF0 a1 a2).to (Z' := fun ρ m H => F (i + 1) src' ρ m H) a4
      have lrb := (lrw.mono w1.ext)
      refine ((gset_of (d := RE.bad) (P := fun r => PostE Y CV W σ ρ0 m0 H0 r fun ρ' m' _ H' v => ∀ x, R Y ρ' m' H' v x → Q x H') (fun z => z) g).1 hok v x l (L2.wipe σ own) _ a3 lrb q2).2 _ fun l' σ' lr' hw p' => ⟨by rw [hw own hown]; exact List.ext_getElem? fun k => wipe_wipe own own (fun _ z => z) k, ?_⟩
      refine ⟨l', h, m, ρ, a2, lr', PostE.mono (PostE.bindN p') fun ρ3 m3 h3 H3 t e3 s3 p3 => ?_⟩
      obtain ⟨b, et, q⟩ := onBl_E' p3
      rw [forceN_eq] at q
      refine ⟨b, et, ?_⟩
      have w3 := w1.mono kF e3 s3
      cases b with
      | false => exact iteF ⟨ρ3, m3, h3, acc, w3.up (by omega), q⟩
      | true =>
        refine iteT ⟨l', h3, m3, ρ3, s3, lr'.mono e3, PostE.mono (PostE.bindN q) fun ρ4 m4 h4 H4 u e4 s4 p4 J1 F1 wk1 f1 => ?_⟩
        obtain ⟨hu1, p4⟩ := unAll_of (P := fun r => PostE Y CV W σ ρ0 m0 H0 r fun ρ' m' _ H' v => ∀ x, R Y ρ' m' H' v x → Q x H') (fun z => z) own1 p4
        have w4 := w3.mono kF e4 s4
        have lr4 := ((lr'.mono e3).mono e4).wipe hu1
        refine ⟨fun j n1 H => j + n1 = 4000 ∧ ∃ ρ m h src acc, AtD Y ρ0 m0 H0 D (4000 * i + j) (fun ρ m H => F (i + 1) src' ρ m H) ρ m h H acc ∧ LR Y ρ m H l' (L2.wipe σ' own1) ∧ F1 j src ρ m H ∧ PostE Y CV W σ ρ0 m0 H0 (accK g1 cond1 elt l' n1 src j acc h m fun acc h m => acc2K g cond own1 g1 src1 cond1 elt l n src' (i + 1) acc h m) (fun ρ' m' _ H' v => ∀ x, R Y ρ' m' H' v x → Q x H'),
          ⟨4000, by omega, ρ4, m4, h4, u, acc, w4, lr4, f1, p4⟩, ?_⟩
        rintro j n1 H5 ⟨hj, ρ5, m5, h5, src5, acc5, w5, lr5, f5, p5⟩
        cases n1 with
        | zero => exact (show False from p5).elim
        | succ n1 =>
          rcases acc_turn (Kf := Kf) wk1 kF hD hok1 hown1 (by omega) w5 lr5 f5 p5 with ⟨r1, r2⟩ | ⟨r1, r2⟩
          · exact .inl ⟨r1, ρ5, m5, h5, acc5, w5.up (by omega), r2⟩
          · exact .inr ⟨r1, fun H' => ∃ ρ m h src acc, AtD Y ρ0 m0 H0 D (4000 * i + j + 1) (fun ρ m H => F (i + 1) src' ρ m H) ρ m h H' acc ∧ LR Y ρ m H' l' (L2.wipe σ' own1) ∧ F1 (j + 1) src ρ m H' ∧ PostE Y CV W σ ρ0 m0 H0 (accK g1 cond1 elt l' n1 src (j + 1) acc h m fun acc h m => acc2K g cond own1 g1 src1 cond1 elt l n src' (i + 1) acc h m) (fun ρ' m' _ H' v => ∀ x, R Y ρ' m' H' v x → Q x H'),
              fun H' w => ⟨n1, Nat.lt_succ_self _, by omega, w⟩, r2⟩
end
end Dz

namespace Dz
open PySem L2
/-! ### defs -/
abbrev Fns := Nat → EV → Tr → Nat → RE
/-- just n of them -/
noncomputable def arK (r : RE) (n : Nat) : EV → RE := Nat.rec (motive := fun _ => EV → RE) (fun xs => onNil .bad r xs) (fun _ ih xs => onCons .bad (fun _ t => ih t) xs) n
theorem arK_of {Y : Fix} {P : RE → Prop} (hbad : ¬ P .bad) {r : RE} {ρ m H} : ∀ (n : Nat) (xs : EV) (vs : List V), RL Y ρ m H xs vs → P (arK r n xs) → vs.length = n ∧ P r
  | 0, xs, vs, rl, p => by
    obtain ⟨rfl, rfl, p⟩ := onNil_of hbad rl (show P (onNil .bad r xs) from p)
    exact ⟨rfl, p⟩
  | n + 1, xs, vs, rl, p => by
    obtain ⟨a, t, x, vt, rfl, rfl, _, rt, p⟩ := onCons_of hbad rl (show P (onCons .bad (fun _ t => arK r n t) xs) from p)
    obtain ⟨a, b⟩ := arK_of hbad n t vt rt p
    exact ⟨by rw [List.length_cons, a], b⟩
noncomputable def eCall (F : Fns) (f n : Nat) (es : CE) : CE := fun l h m => bindE (es l h m) fun xs h m => arK (F f xs h m) n xs
/-- what a def promises: what is reckoned of it -/
def spF (Y : Fix) (CV : Nat → Value) (F : Fns) (f n : Nat) : Sp := fun vs H Q E => vs.length = n ∧ ∃ xs h m ρ, S Y ρ m h H ∧ RL Y ρ m H xs vs ∧ PostE Y CV (fun c d _ H => E c d H) [] ρ m H (F f xs h m) fun ρ' m' _ H' v => ∀ x, R Y ρ' m' H' v x → Q x H'
noncomputable def toLL {α : Type} (pad : LL) (xs : EV) : (LL → α) → α := elist (fun k => k pad) (fun k => k pad) (fun x _ ih k => ih fun r => k (.as x r)) xs
def pads : Nat → LL
  | 0 => .nil
  | n + 1 => .un (pads n)
noncomputable def ofS (r : RS) : RE := RS.rec (motive := fun _ => RE) (fun _ h m => .ok .non h m) (fun v h m => .ok v h m) (fun _ _ _ => .bad) (fun _ _ _ => .bad) (fun c p _ h m => .exc c p h m) .bad r
noncomputable def mkFn (pad : LL) (body : CS) (xs : EV) (h : Tr) (m : Nat) : RE := toLL pad xs fun l => ofS (body l h m)
theorem pads_LLs : ∀ n, LLs (pads n) = List.replicate n none
  | 0 => rfl
  | n + 1 => by show none :: LLs (pads n) = _; rw [pads_LLs n]; rfl
theorem toLL_eq {Y : Fix} {α : Type} {ρ m H} (n : Nat) : ∀ (xs : EV) (vs : List V), RL Y ρ m H xs vs → ∀ k : LL → α, ∃ l, toLL (pads n) xs k = k l ∧ LR Y ρ m H l (vs.map some ++ List.replicate n none)
  | xs, [], rl, k => by
    cases rl.nil_of
    refine ⟨pads n, rfl, by rw [pads_LLs]; simp, fun i x q => ?_⟩
    rw [pads_LLs, List.getElem?_replicate] at q
    split at q <;> cases q
  | xs, v :: vs, rl, k => by
    obtain ⟨w, t, e, rv, rt⟩ := rl.cons_of
    subst e
    obtain ⟨l, el, lr⟩ := toLL_eq n t vs rt (fun r => k (.as w r))
    refine ⟨.as w l, el, ?_, fun i x q => ?_⟩
    · show _ = (some w :: LLs l).length
      rw [List.length_cons, ← lr.len]
      simp
    · cases i with
      | zero =>
        have q' : some (some w) = some (some x) := q
        cases q'
        exact ⟨v, rfl, rv⟩
      | succ i => exact lr.get i x q
section
variable {Y : Fix} {X : Cx} {CV : Nat → Value} {W : WX} {pos p : Pos}
/-- what a call asks of the def, if its answer bears what is wanted -/
theorem spF_of {σ : L2.St} {ρ m H h} {F : Fns} {id n : Nat} {v : EV} {xs : List V} {Q : VK} (s : S Y ρ m h H) (rx : RL Y ρ m H v xs) (p : PostE Y CV W σ ρ m H (arK (F id v h m) n v) fun ρ' m' _ H' v => ∀ x, R Y ρ' m' H' v x → Q x H') : spF Y CV F id n xs H Q (WE W σ) := by
  obtain ⟨hn, q⟩ := arK_of (P := fun r => PostE Y CV W σ ρ m H r fun ρ' m' _ H' v => ∀ x, R Y ρ' m' H' v x → Q x H') (fun z => z) n v xs rx p
  refine ⟨hn, v, h, m, ρ, s, rx, ?_⟩
  cases z : F id v h m with
  | _ => rw [z] at q; exact q
theorem pe_callS0 {X : Cx} {CX : CXT} {k : Nat} {f : Addr} {fd : FuncData} {ps : List Str} {sp : Sp} {E : L2.St → XK} {x : Str} {p pos : Pos} (F : FnOk X.prog X.w X.K X.mg X.base CX k f fd ps sp) (hr : Room k X.A) (hg : Gl X x) (hm : X.mg x = some (.ref f)) (hk : PySem.W.keepIn X.K (.ref f) = true) (hb : Binds X.K fd ps []) (hx : ∀ σ, PassesAt CX X σ (E σ))
    (hdb : (x == ("__debug__" : Str)) = false) : PE X (.Call (.Name x p) [] [] pos) (tCallS sp E tNil) :=
  ⟨fun pins s σ H Q I h => wpAny_Call_Name_kw (ld_glob I hg hm (PySem.W.callWith_K0 I.kIn hk (run_fnS (us := []) F hr hb (hx σ) I .nil h)) hdb)⟩
theorem de_call {x : Str} {f : Addr} {fd : FuncData} {ps : List Str} {F : Fns} {id n k : Nat} {es : List Expr} {ca : CE} (Fo : FnOk X.prog X.w X.K X.mg X.base (L2.CX X.prog X.w) k f fd ps (spF Y CV F id n)) (tk : Takes X W) (hr : Room k X.A) (hg : Gl X x) (hm : X.mg x = some (.ref f)) (hk : PySem.W.keepIn X.K (.ref f) = true) (hb : Binds X.K fd ps [])
    (ha : PA X es (tA Y CV W ca)) (hdb : (x == ("__debug__" : Str)) = false) (he : es.all plainE = true) (h0 : es = [] → ∀ l h m, ca l h m = .ok .nil h m) :
    PE X (.Call (.Name x p) es [] pos) (tE Y CV W (eCall F id n ca)) := by
  cases es with
  | nil =>
    refine pe_mono (pe_callS0 Fo hr hg hm hk hb (passAt tk) hdb) fun σ H Q ⟨l, h, m, ρ, s, lr, q⟩ => ?_
    have q' : PostE Y CV W σ ρ m H (bindE (ca l h m) fun xs h m => arK (F id xs h m) n xs) _ := q
    rw [h0 rfl] at q'
    exact spF_of s RL.nil q'
  | cons e es =>
    obtain ⟨he1, he2⟩ := Bool.and_eq_true_iff.mp (show (plainE e && es.all plainE) = true from he)
    refine pe_mono (pe_callS Fo hr hg hm hk hb (passAt tk) ha hdb (star_plain he1) (any_plain he2)) fun σ H Q ⟨l, h, m, ρ, s, lr, p⟩ => ?_
    exact ⟨l, h, m, ρ, s, lr, PostE.mono (PostE.bind p) fun g1 m1 h1 H1 v e1 s1 p1 xs rx => spF_of s1 rx p1⟩
end
section
variable {P : Program} {w : World} {K : PySem.W.Frag} {mg : Str → Option Value} {base : Heap}
/-- a def's promise by its body's -/
theorem ok_body {Y : Fix} {CV : Nat → Value} {N : List Str} {n id : Nat} {F : Fns} {cb : CS} {qual : Str} {scope : Scope} {f : Addr} {cdv : Value} {A : Around} {outer : List Env} {s : Shared} {H : Hp} {vs : List V} {Q : VK} {E : XK} (hn : vs.length = n) (hF : ∀ xs h m, F id xs h m = mkFn (pads (N.length - n)) cb xs h m) (h : spF Y CV F id n vs H Q E) :
    tS Y CV (fun c d _ H => E c d H) cb { nx := fun _ H' => Q .non H', rt := Q } (start N vs) H := by
  obtain ⟨_, xs, h, m, ρ, sg, rl, p⟩ := h
  rw [hF] at p
  obtain ⟨l, el, lr⟩ := toLL_eq (α := RE) (N.length - n) xs vs rl fun l => ofS (cb l h m)
  have p' : PostE Y CV (fun c d _ H => E c d H) [] ρ m H (toLL (pads (N.length - n)) xs fun l => ofS (cb l h m)) _ := p
  rw [el] at p'
  refine ⟨l, h, m, ρ, sg, ?_, ?_⟩
  · show LR Y ρ m H l (vs.map some ++ List.replicate (N.length - vs.length) none)
    rw [hn]; exact lr
  · cases z : cb l h m with
    | nx l' h' m' => rw [z] at p'; exact fun ρ' H' σ' e s' lr' => p' ρ' H' e s' .non rfl
    | ret v h' m' => rw [z] at p'; exact fun ρ' H' x e s' rx => p' ρ' H' e s' x rx
    | exc c q l' h' m' => rw [z] at p'; exact fun ρ' H' σ' d e s' lr' => p' ρ' H' d e s'
    | brk => rw [z] at p'; exact p'.elim
    | cnt => rw [z] at p'; exact p'.elim
    | bad => rw [z] at p'; exact p'.elim
/-- no call is left -/
theorem ok_zero {Y : Fix} {CV : Nat → Value} {f : Addr} {fd : FuncData} {ps : List Str} {id n : Nat} {F : Fns} (hF : ∀ xs h m, F id xs h m = .bad) : FnOk P w K mg base (L2.CX P w) 0 f fd ps (spF Y CV F id n) := by
  have no : ∀ vs H Q E, ¬ spF Y CV F id n vs H Q E := fun vs H Q E ⟨_, xs, h, m, ρ, _, _, p⟩ => by rw [hF] at p; exact p
  exact ⟨fun vs H Q E h => absurd h (no vs H Q E), fun A outer s H args us vs Q E _ _ _ _ h => absurd h (no vs H Q E)⟩
end
/-! ### name op= value -/
noncomputable def sAug (i : Nat) (f : EV → EV → Tr → Nat → RE) (e : CE) : CS := fun l h m => bindES (lgetK l i fun x => bindE (e l h m) fun y h m => f x y h m) l fun v h m => lsetK v .bad l i fun l => .nx l h m
/-- target = value -/
noncomputable def sAsgG (g : Gd) (e : CE) : CS := fun l h m => bindES (e l h m) l fun v h m => gset RS.bad g v l fun l => .nx l h m
/-- x, y = a, b -/
noncomputable def sPar (is : List Nat) (e : CE) : CS := fun l h m => bindES (e l h m) l fun v h m => gset RS.bad (is.foldr (fun i g => .cons (.nm i) g) .nil) v l fun l => .nx l h m
section
variable {Y : Fix} {X : Cx} {CV : Nat → Value} {W : WX} {a : CE}
theorem ds_asg {st : Stmt} {g : Gd} (hok : g.ok.1 = true) (hp : PS X st (tAsg (tE Y CV W a) (g.rd X.K).1)) : PS X st (tS Y CV W (sAsgG g a)) :=
  ps_mono hp fun D σ H ⟨l, h, m, ρ, s, lr, p⟩ => ⟨l, h, m, ρ, s, lr, PostE.mono (PostS.bind lr p) fun g1 m1 h1 H1 v e1 s1 p1 x rx =>
    ((gset_of (d := RS.bad) (P := fun r => PostS Y CV W g1 m1 H1 r D) (fun z => z) g).1 hok v x l σ _ rx (lr.mono e1) p1).2 _ fun l' σ' lr' _ p' => p' g1 H1 σ' Ext.refl s1 lr'⟩
theorem ds_aug {st : Stmt} {i : Nat} {f : EV → EV → Tr → Nat → RE} {ti : TIp} (hf : Op2 Y CV W f ti) (hp : PS X st (tAug i (tE Y CV W a) ti)) : PS X st (tS Y CV W (sAug i f a)) := ps_mono hp fun D σ H ⟨l, h, m, ρ, s, lr, p⟩ => by
  have p' := PostS.bind lr p
  rcases lgetK_eq l i (fun x => bindE (a l h m) fun y h m => f x y h m) with ⟨v, ev, ee⟩ | ee
  · rw [ee] at p'
    obtain ⟨x, ex, rx⟩ := lr.get i v ev
    refine ⟨x, ex, l, h, m, ρ, s, lr, PostE.mono (PostE.bind p') fun g1 m1 h1 H1 w e1 s1 p1 y ry => hf σ g1 m1 h1 H1 v w x y _ s1 (R.mono e1 rx) ry (PostE.mono p1 fun g2 m2 h2 H2 u e2 s2 p2 z rz => ?_)⟩
    rcases lsetK_eq u RS.bad l i (fun l => RS.nx l h2 m2) with ⟨l', el, hn, q⟩ | q
    · rw [q] at p2
      exact p2 g2 H2 _ Ext.refl s2 (((lr.mono e1).mono e2).set el hn rz)
    · rw [q] at p2; exact p2.elim
  · rw [ee] at p'; exact p'.elim
theorem ds_par {st : Stmt} {i j : Nat} (hp : PS X st (tPar i j (tA Y CV W a))) : PS X st (tS Y CV W (sPar [i, j] a)) := ps_mono hp fun D σ H ⟨l, h, m, ρ, s, lr, p⟩ => ⟨l, h, m, ρ, s, lr, PostE.mono (PostS.bind lr p) fun g1 m1 h1 H1 v e1 s1 p1 xs rx => by
  obtain ⟨a, r, x, t, rfl, rfl, ra, rr, p1⟩ := onCons_S rx (show PostS Y CV W g1 m1 H1 (onCons .bad (fun x r => lsetK x .bad l i fun l => onCons .bad (fun x r => lsetK x .bad l j fun l => onNil .bad (.nx l h1 m1) r) r) v) D from p1)
  rcases lsetK_eq a RS.bad l i (fun l => onCons .bad (fun x r => lsetK x .bad l j fun l => onNil .bad (.nx l h1 m1) r) r) with ⟨l', el, hn, q⟩ | q
  · rw [q] at p1
    obtain ⟨b, r2, y, t2, rfl, rfl, rb, rr2, p1⟩ := onCons_S rr p1
    rcases lsetK_eq b RS.bad l' j (fun l => onNil .bad (.nx l h1 m1) r2) with ⟨l2, el2, hn2, q⟩ | q
    · rw [q] at p1
      obtain ⟨rfl, rfl, p1⟩ := onNil_S rr2 p1
      exact ⟨x, y, rfl, p1 g1 H1 _ Ext.refl s1 (((lr.mono e1).set el hn ra).set el2 hn2 rb)⟩
    · rw [q] at p1; exact p1.elim
  · rw [q] at p1; exact p1.elim⟩
/-! ### try .. except X -/
noncomputable def noX (r : RS) : RS := RS.rec (motive := fun _ => RS) (fun l h m => .nx l h m) (fun v h m => .ret v h m) (fun l h m => .brk l h m) (fun l h m => .cnt l h m) (fun _ _ _ _ _ => .bad) .bad r
theorem noX_of {W' : WX} {ρ m H} {r : RS} {D : Ends} (p : PostS Y CV W ρ m H (noX r) D) : PostS Y CV W' ρ m H r D := by
  cases r with
  | exc => exact p.elim
  | bad => exact p.elim
  | _ => exact p
/-- ct: which of the classes the clause takes -/
noncomputable def sTry (ct : Nat → Option Bool) (cb cs : CS) : CS := fun l h m => RS.rec (motive := fun _ => RS) (fun l h m => .nx l h m) (fun v h m => .ret v h m) (fun l h m => .brk l h m) (fun l h m => .cnt l h m)
  (fun c p l h m => Option.rec (motive := fun _ => RS) .bad (fun b => Bool.rec (motive := fun _ => RS) (.exc c p l h m) (noX (cs l h m)) b) (ct c)) .bad (cb l h m)
theorem ds_try {st : Stmt} {C : Value} {ct : Nat → Option Bool} {cb cs : CS} (hct : ∀ c b, ct c = some b → PySem.W.exmOne X.K (CV c) C = some b)
    (hp : PS X st (fun D σ H => tS Y CV (wOnly X.K C (fun _ _ _ => tS Y CV W0 cs) W D) cb D σ H)) : PS X st (tS Y CV W (sTry ct cb cs)) := ps_mono hp fun D σ H ⟨l, h, m, ρ, s, lr, p⟩ => by
  refine ⟨l, h, m, ρ, s, lr, ?_⟩
  have p' : PostS Y CV W ρ m H (RS.rec (motive := fun _ => RS) (fun l h m => .nx l h m) (fun v h m => .ret v h m) (fun l h m => .brk l h m) (fun l h m => .cnt l h m)
    (fun c p l h m => Option.rec (motive := fun _ => RS) .bad (fun b => Bool.rec (motive := fun _ => RS) (.exc c p l h m) (noX (cs l h m)) b) (ct c)) .bad (cb l h m)) D := p
  cases z : cb l h m with
  | exc c pl l1 h1 m1 =>
    rw [z] at p'
    have p2 : PostS Y CV W ρ m H (Option.rec (motive := fun _ => RS) .bad (fun b => Bool.rec (motive := fun _ => RS) (.exc c pl l1 h1 m1) (noX (cs l1 h1 m1)) b) (ct c)) D := p'
    intro g1 H1 σ1 d e1 s1 lr1 xr
    cases y : ct c with
    | none => rw [y] at p2; exact p2.elim
    | some b =>
      refine ⟨b, hct c b y, fun hb a ha => ?_, fun hb => ?_⟩
      · subst hb
        rw [y] at p2
        exact ⟨l1, h1, m1, g1, s1, lr1, PostS.shift (noX_of p2) e1⟩
      · subst hb
        rw [y] at p2
        exact p2 g1 H1 σ1 d e1 s1 lr1 xr
  | _ => rw [z] at p'; exact p'
end
end Dz

namespace Dz
open PySem L2
/-! ### arithmetic -/
theorem OpR2.or {X : Cx} {f : Value → Value → Sem Value} {r r' : R2} (h : OpR X f r) (h' : OpR X f r') : OpR X f (fun x y H Q => r x y H Q ∨ r' x y H Q) := OpR.or h h'
section
variable {Y : Fix} {X : Cx} {CV : Nat → Value} {W : WX}
noncomputable def cMulB (i j : Int) : Bool := Nat.blt (Nat.add (Nat.log2 (Int.natAbs i)) (Nat.log2 (Int.natAbs j))) 1000000
theorem cMulB_ok {i j : Int} (h : cMulB i j = true) : CMulW i j := by
  have := Nat.blt_eq.mp h
  exact this
noncomputable def cDivB (_ j : Int) : Bool := andB (ltI 0 j) (Nat.blt (Nat.log2 (Int.natAbs j)) 9000)
theorem cDivB_ok {i j : Int} (h : cDivB i j = true) : CDivW i j := by
  unfold cDivB at h
  rw [andB_eq, Bool.and_eq_true, ltI_eq] at h
  exact ⟨of_decide_eq_true h.1, Nat.blt_eq.mp h.2⟩
noncomputable def cPosB (_ j : Int) : Bool := ltI 0 j
theorem cPosB_ok {i j : Int} (h : cPosB i j = true) : (0 : Int) < j := by
  unfold cPosB at h
  rw [ltI_eq] at h
  exact of_decide_eq_true h
noncomputable def cPowB (i j : Int) : Bool := andB (notB (ltI j 0)) (andB (ltI j 1000001) (Nat.blt (Int.natAbs i) 18446744073709551616))
theorem cPowB_ok {i j : Int} (h : cPowB i j = true) : CPow i j := by
  unfold cPowB at h
  rw [andB_eq, andB_eq, Bool.and_eq_true, Bool.and_eq_true, notB_eq, ltI_eq, ltI_eq] at h
  obtain ⟨h1, h2, h3⟩ := h
  have h1' : ¬ j < 0 := by
    intro z
    rw [decide_eq_true z] at h1
    cases h1
  have h2' := of_decide_eq_true h2
  have h3' := Nat.blt_eq.mp h3
  exact ⟨by omega, by omega, h3'⟩
noncomputable def cNnB (_ j : Int) : Bool := notB (ltI j 0)
theorem cNnB_ok {i j : Int} (h : cNnB i j = true) : (0 : Int) ≤ j := by
  unfold cNnB at h
  rw [notB_eq, ltI_eq] at h
  have h1' : ¬ j < 0 := by
    intro z
    rw [decide_eq_true z] at h
    cases h
  omega
noncomputable def fSub : EV → EV → Tr → Nat → RE := fI Int.sub
noncomputable def fFdiv : EV → EV → Tr → Nat → RE := fIc cDivB Int.ediv
noncomputable def fMod : EV → EV → Tr → Nat → RE := fIc cPosB Int.emod
noncomputable def fPow : EV → EV → Tr → Nat → RE := fIc cPowB fun i j => Int.pow i j.toNat
noncomputable def fShl : EV → EV → Tr → Nat → RE := fIc cPowB fun i j => Int.mul i (.ofNat (Nat.pow 2 j.toNat))
noncomputable def fShr : EV → EV → Tr → Nat → RE := fIc cNnB fun i j => Int.ediv i (.ofNat (Nat.pow 2 j.toNat))
theorem o_sub : Op2 Y CV W fSub (rI0 fun i j => .int (i - j)) := o_int fun _ _ => rfl
theorem o_fdiv : Op2 Y CV W fFdiv (rI CDivW fun i j => .int (i / j)) := o_intc (fun _ _ => cDivB_ok) fun _ _ _ => rfl
theorem o_mod : Op2 Y CV W fMod (rI (fun _ j => 0 < j) fun i j => .int (i % j)) := o_intc (fun _ _ => cPosB_ok) fun _ _ _ => rfl
theorem o_pow : Op2 Y CV W fPow (rI CPow fun i j => .int (i ^ j.toNat)) := o_intc (fun _ _ => cPowB_ok) fun i j _ => rfl
theorem o_shl : Op2 Y CV W fShl (rI CPow fun i j => .int (i * 2 ^ j.toNat)) := o_intc (fun _ _ => cPowB_ok) fun i j _ => by
  show i * ((2 ^ j.toNat : Nat) : Int) = _
  rw [Int.natCast_pow]; rfl
theorem o_shr : Op2 Y CV W fShr (rI (fun _ j => 0 ≤ j) fun i j => .int (i / 2 ^ j.toNat)) := o_intc (fun _ _ => cNnB_ok) fun i j _ => by
  show i / ((2 ^ j.toNat : Nat) : Int) = _
  rw [Int.natCast_pow]; rfl
noncomputable def fBand : EV → EV → Tr → Nat → RE := fI Builtin.bitAnd
noncomputable def fBor : EV → EV → Tr → Nat → RE := fI Builtin.bitOr
noncomputable def fBxor : EV → EV → Tr → Nat → RE := fI Builtin.bitXor
theorem o_band : Op2 Y CV W fBand (rI0 fun i j => .int (Builtin.bitAnd i j)) := o_int fun _ _ => rfl
theorem o_bor : Op2 Y CV W fBor (rI0 fun i j => .int (Builtin.bitOr i j)) := o_int fun _ _ => rfl
theorem o_bxor : Op2 Y CV W fBxor (rI0 fun i j => .int (Builtin.bitXor i j)) := o_int fun _ _ => rfl
/-! ### * : numbers, a list -/
noncomputable def repK (xs : EV) (n : Nat) : EV → (EV → RE) → RE := Nat.rec (motive := fun _ => EV → (EV → RE) → RE) (fun acc k => k acc) (fun _ ih acc k => appK acc xs fun z => ih z k) n
theorem repK_of {ρ m H} {xs : EV} {vs : List V} (rl : RL Y ρ m H xs vs) : ∀ (n : Nat) (acc : EV) (ws : List V) (k : EV → RE), RL Y ρ m H acc ws → ∃ z, repK xs n acc k = k z ∧ RL Y ρ m H z ((List.replicate n vs).flatten ++ ws)
  | 0, acc, ws, k, ra => ⟨acc, rfl, ra⟩
  | n + 1, acc, ws, k, ra => by
    obtain ⟨z, ez, rz⟩ := appK_RL (α := RE) ra xs vs rl fun z => repK xs n z k
    obtain ⟨u, eu, ru⟩ := repK_of rl n z (vs ++ ws) k rz
    refine ⟨u, ez.trans eu, ?_⟩
    rw [List.replicate_succ', List.flatten_append, List.append_assoc]
    simpa using ru
noncomputable def fMul : EV → EV → Tr → Nat → RE := fun v w h m => EV.rec (motive := fun _ => RE) .bad (fun _ => .bad) (fun i => onInt .bad (fun j => Bool.rec (motive := fun _ => RE) .bad (okInt (Int.mul i j) h m) (cMulB i j)) w) (fun _ _ => .bad) .bad (fun _ _ _ _ => .bad) (fun _ _ => .bad) (fun _ _ => .bad)
  (fun a => onInt .bad (fun k => onLst .bad (fun xs => Bool.rec (motive := fun _ => RE) .bad (repK xs k.toNat .nil fun z => lenOk z (newK (.lst z) h m)) (Nat.ble k.natAbs 16000000)) (tget h a)) w) (fun _ => .bad) (fun _ => .bad) v
def rMulE : R2 := fun x y H Q => rI CMulW (fun i j => .int (i * j)) x y H Q ∨ rRep x y H Q
theorem op_mulE : OpR X (binaryOp .Mult) rMulE := OpR2.or op_mulW op_rep
theorem o_mul : Op2 Y CV W fMul rMulE := fun σ ρ m h H v w x y Q s rx ry p => by
  cases v with
  | int i =>
    obtain ⟨j, rfl, rfl, p⟩ := onInt_E ry (show PostE Y CV W σ ρ m H (onInt .bad (fun j => Bool.rec (motive := fun _ => RE) .bad (okInt (Int.mul i j) h m) (cMulB i j)) w) _ from p)
    obtain ⟨b, p⟩ := bok_E p
    rw [okInt_eq] at p
    exact .inl ⟨i, j, rx, rfl, cMulB_ok b, post_ok s p _ rfl⟩
  | ref a =>
    obtain ⟨hi, rfl⟩ := rx
    obtain ⟨k, rfl, rfl, p⟩ := onInt_E ry (show PostE Y CV W σ ρ m H (onInt .bad (fun k => onLst .bad (fun xs => Bool.rec (motive := fun _ => RE) .bad (repK xs k.toNat .nil fun z => lenOk z (newK (.lst z) h m)) (Nat.ble k.natAbs 16000000)) (tget h a)) w) _ from p)
    obtain ⟨xs, vs, ho, hv, rl, p⟩ := onLst_E s hi p
    obtain ⟨b, p⟩ := bok_E p
    obtain ⟨z, ez, rz⟩ := repK_of (Y := Y) rl k.toNat .nil [] (fun z => lenOk z (newK (.lst z) h m)) RL.nil
    rw [ez] at p
    rw [List.append_nil] at rz
    obtain ⟨hl, p⟩ := lenOk_E rz p
    have hb := Nat.le_of_ble_eq_true b
    refine .inr ⟨ρ a, k, vs, rfl, rfl, hv, by omega, by omega, ?_, fun q hq => new_list s rz hq p⟩
    have e : (List.replicate k.toNat vs).flatten.length = vs.length * k.toNat := by simp [Nat.mul_comm]
    rw [e] at hl
    exact Nat.le_of_lt (small16 hl)
  | _ => exact p.elim
/-! ### + -/
noncomputable def addT (xs w : EV) (h : Tr) (m : Nat) : RE := onTup .bad (fun ys => appK ys xs fun z => lenOk z (.ok (.tup z) h m)) w
noncomputable def addL (a : Nat) (w : EV) (h : Tr) (m : Nat) : RE := onLst .bad (fun xs => onRef .bad (fun b => onLst .bad (fun ys => appK ys xs fun z => lenOk z (newK (.lst z) h m)) (tget h b)) w) (tget h a)
noncomputable def pl2 (s t : EV) (r : RE) : RE := elist .bad (elist .bad r (fun _ _ _ => r) t) (fun _ _ _ => elist .bad r (fun _ _ _ => r) t) s
noncomputable def addS (s w : EV) (h : Tr) (m : Nat) : RE := onStr .bad (fun t => pl2 s t (appK t s fun z => lenOk z (.ok (.str z) h m))) w
noncomputable def fAdd : EV → EV → Tr → Nat → RE := fun v w h m => EV.rec (motive := fun _ => RE) .bad (fun _ => .bad) (fun i => onInt .bad (fun j => okInt (Int.add i j) h m) w) (fun s _ => addS s w h m) .bad (fun _ _ _ _ => .bad)
  (fun xs _ => addT xs w h m) (fun _ _ => .bad) (fun a => addL a w h m) (fun _ => .bad) (fun _ => .bad) v
def rAddS : R2 := fun x y H Q => ∃ i j : Str, x = .str i ∧ y = .str j ∧ i.length + j.length ≤ sizeLine ∧ Q (.str (i ++ j)) H
def rAddE (K : PySem.W.Frag) : R2 := fun x y H Q => rI0 (fun i j => .int (i + j)) x y H Q ∨ (rCat x y H Q ∨ (rCatA K x y H Q ∨ rAddS x y H Q))
theorem op_addE : OpR X (binaryOp .Add) (rAddE X.K) := OpR2.or op_add (OpR2.or op_cat (OpR2.or op_catA op_add_str))
theorem o_addL {σ : L2.St} {ρ m h H} {a : Nat} {w : EV} {y : V} {Q : VK} (s : S Y ρ m h H) (hi : a < m) (ry : R Y ρ m H w y)
    (p : PostE Y CV W σ ρ m H (addL a w h m) fun ρ' m' _ H' z => ∀ u, R Y ρ' m' H' z u → Q u H') : rCat (.ref (ρ a)) y H Q := by
  obtain ⟨xs, vs, ho, hv, rl, p⟩ := onLst_E s hi (show PostE Y CV W σ ρ m H (onLst .bad (fun xs => onRef .bad (fun b => onLst .bad (fun ys => appK ys xs fun z => lenOk z (newK (.lst z) h m)) (tget h b)) w) (tget h a)) _ from p)
  obtain ⟨b, rfl, hb, rfl, p⟩ := onRef_E ry p
  obtain ⟨ys, ws, ho2, hw, rl2, p⟩ := onLst_E s hb p
  obtain ⟨z, ez, rz⟩ := appK_RL (α := RE) rl2 xs vs rl fun z => lenOk z (newK (.lst z) h m)
  rw [ez] at p
  obtain ⟨hl, p⟩ := lenOk_E rz p
  rw [List.length_append] at hl
  exact ⟨ρ a, ρ b, vs, ws, rfl, rfl, hv, hw, Nat.le_of_lt (small16 hl), fun q hq => new_list s rz hq p⟩
theorem appK_codes {α : Type} {t : EV} {k2 : List Nat} (ht : codes t = some k2) : ∀ (x : EV) (l : List Nat), codes x = some l → ∀ k : EV → α, ∃ z, appK t x k = k z ∧ codes z = some (l ++ k2)
  | .nil, l, e, k => by
    cases (show some [] = some l from e)
    exact ⟨t, rfl, ht⟩
  | .cons a r, l, e, k => by
    obtain ⟨c, rfl⟩ := codes_no e
    obtain ⟨l1, rfl, q, hc⟩ := codes_cons e
    obtain ⟨z, ez, cz⟩ := appK_codes ht r l1 q (fun z => k (.cons (.ch c) z))
    refine ⟨.cons (.ch c) z, ez, ?_⟩
    show (if c < 1114112 then (codes z).map (c :: ·) else none) = _
    rw [if_pos hc, cz]; rfl
  | .non, _, e, _ => by cases e
  | .bl _, _, e, _ => by cases e
  | .int _, _, e, _ => by cases e
  | .str _, _, e, _ => by cases e
  | .tup _, _, e, _ => by cases e
  | .lst _, _, e, _ => by cases e
  | .ref _, _, e, _ => by cases e
  | .ch _, _, e, _ => by cases e
  | .cst _, _, e, _ => by cases e
theorem lenK_codes {α : Type} : ∀ (s : EV) (l : List Nat), codes s = some l → ∀ (n : Nat) (k : Nat → α), lenK s n k = k (n + l.length)
  | .nil, l, e, n, k => by cases (show some [] = some l from e); rfl
  | .cons a t, l, e, n, k => by
    obtain ⟨c, rfl⟩ := codes_no e
    obtain ⟨r, rfl, q, _⟩ := codes_cons e
    show forceN (Nat.succ n) (fun m => lenK t m k) = _
    rw [forceN_eq, lenK_codes t r q]
    congr 1
    rw [List.length_cons]; omega
  | .non, _, e, _, _ => by cases e
  | .bl _, _, e, _, _ => by cases e
  | .int _, _, e, _, _ => by cases e
  | .str _, _, e, _, _ => by cases e
  | .tup _, _, e, _, _ => by cases e
  | .lst _, _, e, _, _ => by cases e
  | .ref _, _, e, _, _ => by cases e
  | .ch _, _, e, _, _ => by cases e
  | .cst _, _, e, _, _ => by cases e
theorem cdx_of {s : EV} {l : List Nat} (h : codes s = some l) : cdx s = some l := by
  cases s with
  | lst => cases h
  | _ => exact h
/-- no symbolic text -/
theorem plain_E {σ : L2.St} {ρ1 : Pl} {m1 : Nat} {H1 : Hp} {K : KE} {s : EV} {l : List Nat} {A B : RE} (h : cdx s = some l) (p : PostE Y CV W σ ρ1 m1 H1 (elist .bad A (fun _ _ _ => B) s) K) : codes s = some l ∧ ((l = [] ∧ s = .nil ∧ PostE Y CV W σ ρ1 m1 H1 A K) ∨ (l ≠ [] ∧ PostE Y CV W σ ρ1 m1 H1 B K)) := by
  cases s with
  | nil => exact ⟨h, .inl ⟨by cases (show some [] = some l from h); rfl, rfl, p⟩⟩
  | cons a t =>
    have h' : codes (.cons a t) = some l := h
    obtain ⟨c, rfl⟩ := codes_no h'
    obtain ⟨k, rfl, _, _⟩ := codes_cons h'
    exact ⟨h', .inr ⟨fun z => (nomatch z), p⟩⟩
  | _ => exact p.elim
theorem lenOk_codes {σ : L2.St} {ρ1 : Pl} {m1 : Nat} {H1 : Hp} {K : KE} {s : EV} {l : List Nat} {B : RE} (h : codes s = some l) (p : PostE Y CV W σ ρ1 m1 H1 (lenOk s B) K) : l.length ≤ 16000000 ∧ PostE Y CV W σ ρ1 m1 H1 B K := by
  unfold lenOk at p
  rw [lenK_codes s l h, Nat.zero_add] at p
  obtain ⟨b, p⟩ := bok_E p
  exact ⟨Nat.le_of_ble_eq_true b, p⟩
theorem str_app (l k : List Nat) : ((⟨l.toArray⟩ : Str) ++ (⟨k.toArray⟩ : Str)) = ⟨(l ++ k).toArray⟩ := by
  show Str.mk (l.toArray ++ k.toArray) = _
  simp
theorem pl2_E {σ : L2.St} {ρ1 : Pl} {m1 : Nat} {H1 : Hp} {K : KE} {s t : EV} {l k : List Nat} {r : RE} (h1 : cdx s = some l) (h2 : cdx t = some k) (p : PostE Y CV W σ ρ1 m1 H1 (pl2 s t r) K) : codes s = some l ∧ codes t = some k ∧ PostE Y CV W σ ρ1 m1 H1 r K := by
  obtain ⟨c1, q⟩ := plain_str (d := RE.bad) (P := fun r => PostE Y CV W σ ρ1 m1 H1 r K) (fun z => z) h1 (show PostE Y CV W σ ρ1 m1 H1 (elist .bad (elist .bad r (fun _ _ _ => r) t) (fun _ _ _ => elist .bad r (fun _ _ _ => r) t) s) K from p)
  obtain ⟨c2, q⟩ := plain_str (d := RE.bad) (P := fun r => PostE Y CV W σ ρ1 m1 H1 r K) (fun z => z) h2 q
  exact ⟨c1, c2, q⟩
theorem o_addS {σ : L2.St} {ρ m h H} {sx w : EV} {x y : V} {Q : VK} (s : S Y ρ m h H) (rx : R Y ρ m H (.str sx) x) (ry : R Y ρ m H w y)
    (p : PostE Y CV W σ ρ m H (addS sx w h m) fun ρ' m' _ H' z => ∀ u, R Y ρ' m' H' z u → Q u H') : rAddS x y H Q := by
  obtain ⟨l, hl, rfl⟩ := rx
  obtain ⟨t, k, rfl, hk, rfl, p⟩ := onStr_E ry p
  obtain ⟨c1, c2, p⟩ := pl2_E hl hk p
  obtain ⟨z, ez, cz⟩ := appK_codes (α := RE) c2 sx l c1 fun z => lenOk z (.ok (.str z) h m)
  rw [ez] at p
  obtain ⟨hn, p⟩ := lenOk_codes cz p
  refine ⟨_, _, rfl, rfl, ?_, post_ok s p _ ⟨l ++ k, cdx_of cz, by rw [str_app]⟩⟩
  rw [List.length_append] at hn
  have : l.length + k.length ≤ sizeLine := Nat.le_of_lt (small16 hn)
  simpa [PySem.Str.length] using this
theorem o_add {Kf : PySem.W.Frag} : Op2 Y CV W fAdd (rAddE Kf) := fun σ ρ m h H v w x y Q s rx ry p => by
  cases v with
  | int i =>
    obtain ⟨j, rfl, rfl, p⟩ := onInt_E ry (show PostE Y CV W σ ρ m H (onInt .bad (fun j => okInt (Int.add i j) h m) w) _ from p)
    rw [okInt_eq] at p
    exact .inl ⟨i, j, rx, rfl, post_ok s p _ rfl⟩
  | str c => exact .inr (.inr (.inr (o_addS s rx ry p)))
  | ref a =>
    obtain ⟨hi, rfl⟩ := rx
    exact .inr (.inl (o_addL s hi ry p))
  | tup xs =>
    obtain ⟨a, vs, rfl, ha, na, rl⟩ := rx
    obtain ⟨ys, b, ws, rfl, rfl, hb, nb, rl2, p⟩ := onTup_E ry (show PostE Y CV W σ ρ m H (onTup .bad (fun ys => appK ys xs fun z => lenOk z (.ok (.tup z) h m)) w) _ from p)
    obtain ⟨z, ez, rz⟩ := appK_RL (α := RE) rl2 xs vs rl fun z => lenOk z (.ok (.tup z) h m)
    rw [ez] at p
    obtain ⟨hl, p⟩ := lenOk_E rz p
    rw [List.length_append] at hl
    refine .inr (.inr (.inl ⟨a, b, vs, ws, rfl, rfl, SqT.of ha, SqT.of hb, Nat.le_of_lt (small16 hl), fun e => ?_, fun _ e => ?_, fun _ _ q hq => post_new s hq p _ (R.tup s hq rz)⟩))
    · rw [e, List.nil_append] at rz
      exact post_ok s p _ ⟨b, ws, rfl, hb, nb, rz⟩
    · rw [e, List.append_nil] at rz
      exact post_ok s p _ ⟨a, vs, rfl, ha, na, rz⟩
  | _ => exact p.elim
/-! ### items -/
noncomputable def enth (e : EV) : Nat → (EV → RE) → RE := elist (fun _ _ => .bad) (fun _ _ => .bad) (fun x _ ih n k => Nat.rec (motive := fun _ => RE) (k x) (fun j _ => ih j k) n) e
theorem enth_of {P : RE → Prop} (hbad : ¬ P .bad) {ρ m H} {k : EV → RE} : ∀ (n : Nat) (e : EV) (vs : List V), RL Y ρ m H e vs → P (enth e n k) → ∃ v x, vs[n]? = some x ∧ R Y ρ m H v x ∧ P (k v)
  | n, e, [], rl, p => by
    cases rl.nil_of
    exact absurd p hbad
  | 0, e, x :: vs, rl, p => by
    obtain ⟨v, t, z, rv, _⟩ := rl.cons_of
    subst z
    exact ⟨v, x, rfl, rv, p⟩
  | n + 1, e, x :: vs, rl, p => by
    obtain ⟨v, t, z, _, rt⟩ := rl.cons_of
    subst z
    exact enth_of hbad n t vs rt p
noncomputable def atE (e : EV) (i : Int) (h : Tr) (m : Nat) : RE := Int.rec (motive := fun _ => RE) (fun n => enth e n fun v => .ok v h m) (fun n => revK e .nil fun r => enth r n fun v => .ok v h m) i
noncomputable def fIx : EV → EV → Tr → Nat → RE := fun v w h m => onInt .bad (fun i => seqK (fun e => atE e i h m) (fun e => atE e i h m) v h) w
theorem atI_last' {vs : List V} {n : Nat} {x : V} (h : vs.reverse[n]? = some x) : atI vs (Int.negSucc n) = some x := by
  have hn : n < vs.length := by
    have := (List.getElem?_eq_some_iff.mp h).1
    rw [List.length_reverse] at this; exact this
  unfold atI ixN
  rw [if_neg (by omega), if_pos (by omega)]
  show vs[(Int.negSucc n + (vs.length : Int)).toNat]? = some x
  rw [List.getElem?_reverse hn] at h
  rw [show (Int.negSucc n + (vs.length : Int)).toNat = vs.length - 1 - n by omega]
  exact h
theorem atE_of {σ : L2.St} {ρ m h H} {e : EV} {vs : List V} {i : Int} {Q : VK} (s : S Y ρ m h H) (rl : RL Y ρ m H e vs) (p : PostE Y CV W σ ρ m H (atE e i h m) fun ρ' m' _ H' v => ∀ x, R Y ρ' m' H' v x → Q x H') : ∃ x, atI vs i = some x ∧ Q x H := by
  cases i with
  | ofNat n =>
    obtain ⟨v, x, e1, rv, q⟩ := enth_of (P := fun r => PostE Y CV W σ ρ m H r fun ρ' m' _ H' v => ∀ x, R Y ρ' m' H' v x → Q x H') (fun z => z) n e vs rl p
    exact ⟨x, atI_nat e1, post_ok s q x rv⟩
  | negSucc n =>
    have p' : PostE Y CV W σ ρ m H (revK e .nil fun r => enth r n fun v => .ok v h m) _ := p
    obtain ⟨r, er, rr⟩ := rev_of (α := RE) rl fun r => enth r n fun v => .ok v h m
    rw [er] at p'
    obtain ⟨v, x, e1, rv, q⟩ := enth_of (P := fun r => PostE Y CV W σ ρ m H r fun ρ' m' _ H' v => ∀ x, R Y ρ' m' H' v x → Q x H') (fun z => z) n r vs.reverse rr p'
    exact ⟨x, atI_last' e1, post_ok s q x rv⟩
def rIxE (K : PySem.W.Frag) : R2 := fun x y H Q => rIxL K x y H Q ∨ rIxT K x y H Q
theorem ix_E : IxR X (rIxE X.K) := IxR.or ix_list ix_tup
theorem o_ix {Kf : PySem.W.Frag} : Op2 Y CV W fIx (rIxE Kf) := fun σ ρ m h H v w x y Q s rx ry p => by
  obtain ⟨i, rfl, rfl, p⟩ := onInt_E ry p
  obtain ⟨a, vs, e, rfl, rl, q⟩ := seqK_E s rx p
  rcases q with ⟨hv, _, q⟩ | ⟨hv, _, _, q⟩
  · obtain ⟨x, ex, qx⟩ := atE_of s rl q
    exact .inl ⟨a, vs, i, x, rfl, rfl, SqL.of hv, ex, qx⟩
  · obtain ⟨x, ex, qx⟩ := atE_of s rl q
    exact .inr ⟨a, vs, i, x, rfl, rfl, SqT.of hv, ex, qx⟩
/-! ### slices -/
noncomputable def dropE (e : EV) : Nat → EV := EV.rec (motive := fun _ => Nat → EV) (fun _ => .nil) (fun _ _ => .nil) (fun _ _ => .nil) (fun _ _ _ => .nil) (fun _ => .nil)
  (fun x xs _ ih n => Nat.rec (motive := fun _ => EV) (.cons x xs) (fun j _ => ih j) n) (fun _ _ _ => .nil) (fun _ _ _ => .nil) (fun _ _ => .nil) (fun _ _ => .nil) (fun _ _ => .nil) e
noncomputable def takeK {α : Type} (e : EV) : Nat → (EV → α) → α := elist (fun _ k => k .nil) (fun _ k => k .nil) (fun x _ ih n k => Nat.rec (motive := fun _ => α) (k .nil) (fun j _ => ih j fun z => k (.cons x z)) n) e
theorem dropE_RL {ρ m H} : ∀ (n : Nat) (e : EV) (vs : List V), RL Y ρ m H e vs → RL Y ρ m H (dropE e n) (vs.drop n)
  | n, e, [], rl => by
    cases rl.nil_of
    rw [List.drop_nil]; exact rfl
  | 0, e, x :: vs, rl => by
    obtain ⟨v, t, z, rv, rt⟩ := rl.cons_of
    subst z
    exact ⟨x, vs, rfl, rv, rt⟩
  | n + 1, e, x :: vs, rl => by
    obtain ⟨v, t, z, rv, rt⟩ := rl.cons_of
    subst z
    exact dropE_RL n t vs rt
theorem takeK_RL {α : Type} {ρ m H} : ∀ (n : Nat) (e : EV) (vs : List V) (k : EV → α), RL Y ρ m H e vs → ∃ z, takeK e n k = k z ∧ RL Y ρ m H z (vs.take n)
  | n, e, [], k, rl => by
    cases rl.nil_of
    rw [List.take_nil]; exact ⟨.nil, rfl, rfl⟩
  | 0, e, x :: vs, k, rl => by
    obtain ⟨v, t, z, rv, rt⟩ := rl.cons_of
    subst z
    exact ⟨.nil, rfl, rfl⟩
  | n + 1, e, x :: vs, k, rl => by
    obtain ⟨v, t, z, rv, rt⟩ := rl.cons_of
    subst z
    obtain ⟨u, eu, ru⟩ := takeK_RL n t vs (fun z => k (.cons v z)) rt
    exact ⟨.cons v u, eu, x, _, rfl, rv, ru⟩
noncomputable def cutE (e : EV) (lo hi : Option Int) (k : EV → RE) : RE := lenK e 0 fun n => forceN (HT.sIx n 0 lo) fun i => forceN (Nat.sub (HT.sIx n n hi) i) fun j => takeK (dropE e i) j k
theorem cutE_RL {ρ m H} {e : EV} {vs : List V} {lo hi : Option Int} (k : EV → RE) (rl : RL Y ρ m H e vs) : ∃ z, cutE e lo hi k = k z ∧ RL Y ρ m H z (cutV vs lo hi) := by
  unfold cutE
  rw [lenK_RL e vs rl, Nat.zero_add, forceN_eq, forceN_eq]
  exact takeK_RL _ _ _ k (dropE_RL _ e vs rl)
noncomputable def fSl : EV → Option Int → Option Int → Tr → Nat → RE := fun v lo hi h m => seqK (fun e => cutE e lo hi fun z => newK (.lst z) h m) (fun e => cutE e lo hi fun z => .ok (.tup z) h m) v h
abbrev CP := LL → Tr → Nat → (Option Int → Tr → Nat → RE) → RE
noncomputable def noP : CP := fun _ h m k => k none h m
noncomputable def prt (c : CE) : CP := fun l h m k => bindE (c l h m) fun v h m => onInt .bad (fun i => k (some i) h m) v
noncomputable def eSl (a : CE) (lo hi : CP) : CE := fun l h m => bindE (a l h m) fun v h m => lo l h m fun i h m => hi l h m fun j h m => fSl v i j h m
def Prt (Y : Fix) (CV : Nat → Value) (W : WX) (c : CP) (t : TO) : Prop := ∀ (σ : L2.St) (ρ : Pl) (m : Nat) (h : Tr) (H : Hp) (l : LL) (k : Option Int → Tr → Nat → RE) (K : KE) (Q : Option Int → Hp → Prop), S Y ρ m h H → LR Y ρ m H l σ → PostE Y CV W σ ρ m H (c l h m k) K →
  (∀ i ρ' m' h' H', Ext ρ m H ρ' m' H' → S Y ρ' m' h' H' → PostE Y CV W σ ρ' m' H' (k i h' m') K → Q i H') → t σ H Q
theorem prt_none : Prt Y CV W noP tNoPart := fun σ ρ m h H l k K Q s lr p q => q none ρ m h H Ext.refl s p
theorem prt_some {a : CE} : Prt Y CV W (prt a) (tPart (tE Y CV W a)) := fun σ ρ m h H l k K Q s lr p q => ⟨l, h, m, ρ, s, lr, PostE.mono (PostE.bind p) fun g1 m1 h1 H1 v e1 s1 p1 x rx => by
  obtain ⟨i, rfl, rfl, p⟩ := onInt_E rx p1
  exact ⟨i, rfl, q (some i) g1 m1 h1 H1 e1 s1 p⟩⟩
theorem de_sl {a : CE} {ea : Expr} {pos p2 : Pos} {lo hi : Option Expr} {cl ch : CP} {tl th : TO} (ha : PE X ea (tE Y CV W a)) (hl : PO X lo tl) (hh : PO X hi th) (kl : Prt Y CV W cl tl) (kh : Prt Y CV W ch th) :
    PE X (.Subscript ea (.Slice lo hi none p2) pos) (tE Y CV W (eSl a cl ch)) := by
  refine pe_mono (pe_slice (SlR.or sl_list sl_tupA) ha hl hh) fun σ H Q ⟨l, h, m, ρ, s, lr, p⟩ => ⟨l, h, m, ρ, s, lr, PostE.mono (PostE.bind p) fun g1 m1 h1 H1 v e1 s1 p1 x rx => ?_⟩
  refine kl σ g1 m1 h1 H1 l _ _ _ s1 (lr.mono e1) p1 fun i g2 m2 h2 H2 e2 s2 p2 => kh σ g2 m2 h2 H2 l _ _ _ s2 ((lr.mono e1).mono e2) p2 fun j g3 m3 h3 H3 e3 s3 p3 => ?_
  obtain ⟨a, vs, e, rfl, rl, q⟩ := seqK_E s3 (R.mono e3 (R.mono e2 rx)) p3
  rcases q with ⟨hv, _, q⟩ | ⟨hv, _, hM, q⟩
  · refine .inl ⟨a, vs, rfl, SqL.of hv, fun p hp => ?_⟩
    obtain ⟨z, ez, rz⟩ := cutE_RL (lo := i) (hi := j) (fun z => newK (.lst z) h3 m3) rl
    rw [ez] at q
    exact new_list s3 rz hp q
  · obtain ⟨z, ez, rz⟩ := cutE_RL (lo := i) (hi := j) (fun z => .ok (.tup z) h3 m3) rl
    rw [ez] at q
    refine .inr ⟨a, vs, rfl, SqT.of hv, fun w => ?_, fun _ p hp => post_new s3 hp q _ (R.tup s3 hp rz)⟩
    have ec : cutV vs i j = vs := by
      unfold cutV
      rw [w.1, w.2, List.drop_zero, Nat.sub_zero, List.take_length]
    rw [ec] at rz
    exact post_ok s3 q _ ⟨a, vs, rfl, hv, hM, rz⟩
/-! ### is None, is True -/
noncomputable def fIs (neg : Bool) : EV → EV → Tr → Nat → RE := fun v w h m => EV.rec (motive := fun _ => RE)
  (EV.rec (motive := fun _ => RE) (okB (notB neg) h m) (fun _ => okB neg h m) (fun _ => okB neg h m) (fun _ _ => okB neg h m) .bad (fun _ _ _ _ => .bad) (fun _ _ => okB neg h m) (fun _ _ => .bad) (fun _ => okB neg h m) (fun _ => .bad) (fun _ => .bad) v)
  (fun b => onBl .bad (fun a => okB (Bool.rec (motive := fun _ => Bool) (Bool.rec (motive := fun _ => Bool) (notB neg) neg a) (Bool.rec (motive := fun _ => Bool) neg (notB neg) a) b) h m) v)
  (fun _ => .bad) (fun _ _ => .bad) .bad (fun _ _ _ _ => .bad) (fun _ _ => .bad) (fun _ _ => .bad) (fun _ => .bad) (fun _ => .bad) (fun _ => .bad) w
def rIsE : R2 := fun x y H Q => (y = .non ∧ Q (.bl (decide (x = .non))) H) ∨ (∃ a b, x = .bl a ∧ y = .bl b ∧ Q (.bl (decide (a = b))) H)
def rNotE : R2 := fun x y H Q => (y = .non ∧ Q (.bl (!decide (x = .non))) H) ∨ (∃ a b, x = .bl a ∧ y = .bl b ∧ Q (.bl (!decide (a = b))) H)
theorem op_isE : OpR X (compareOp .Is) rIsE := OpR2.or op_isN op_is_bl
theorem op_notE : OpR X (compareOp .IsNot) rNotE := OpR2.or op_notN op_isnot_bl
theorem o_is : Op2 Y CV W (fIs false) rIsE := fun σ ρ m h H v w x y Q s rx ry p => by
  cases w with
  | non =>
    refine .inl ⟨ry, ?_⟩
    cases v with
    | non => cases (show x = .non from rx); have p' : PostE Y CV W σ ρ m H (okB true h m) _ := p; rw [okB_eq] at p'; exact post_ok s p' _ rfl
    | bl => cases (show x = _ from rx); have p' : PostE Y CV W σ ρ m H (okB false h m) _ := p; rw [okB_eq] at p'; exact post_ok s p' _ rfl
    | int => cases (show x = _ from rx); have p' : PostE Y CV W σ ρ m H (okB false h m) _ := p; rw [okB_eq] at p'; exact post_ok s p' _ rfl
    | str => obtain ⟨_, _, rfl⟩ := rx; have p' : PostE Y CV W σ ρ m H (okB false h m) _ := p; rw [okB_eq] at p'; exact post_ok s p' _ rfl
    | tup => obtain ⟨_, _, rfl, _⟩ := rx; have p' : PostE Y CV W σ ρ m H (okB false h m) _ := p; rw [okB_eq] at p'; exact post_ok s p' _ rfl
    | ref => obtain ⟨_, rfl⟩ := rx; have p' : PostE Y CV W σ ρ m H (okB false h m) _ := p; rw [okB_eq] at p'; exact post_ok s p' _ rfl
    | _ => exact p.elim
  | bl b =>
    obtain ⟨a, rfl, rfl, p⟩ := onBl_E rx (show PostE Y CV W σ ρ m H (onBl .bad (fun a => okB (Bool.rec (motive := fun _ => Bool) (Bool.rec (motive := fun _ => Bool) true false a) (Bool.rec (motive := fun _ => Bool) false true a) b) h m) v) _ from p)
    rw [okB_eq] at p
    exact .inr ⟨a, b, rfl, ry, post_ok s p _ (by cases a <;> cases b <;> rfl)⟩
  | _ => exact p.elim
theorem o_isnot : Op2 Y CV W (fIs true) rNotE := fun σ ρ m h H v w x y Q s rx ry p => by
  cases w with
  | non =>
    refine .inl ⟨ry, ?_⟩
    cases v with
    | non => cases (show x = .non from rx); have p' : PostE Y CV W σ ρ m H (okB false h m) _ := p; rw [okB_eq] at p'; exact post_ok s p' _ rfl
    | bl => cases (show x = _ from rx); have p' : PostE Y CV W σ ρ m H (okB true h m) _ := p; rw [okB_eq] at p'; exact post_ok s p' _ rfl
    | int => cases (show x = _ from rx); have p' : PostE Y CV W σ ρ m H (okB true h m) _ := p; rw [okB_eq] at p'; exact post_ok s p' _ rfl
    | str => obtain ⟨_, _, rfl⟩ := rx; have p' : PostE Y CV W σ ρ m H (okB true h m) _ := p; rw [okB_eq] at p'; exact post_ok s p' _ rfl
    | tup => obtain ⟨_, _, rfl, _⟩ := rx; have p' : PostE Y CV W σ ρ m H (okB true h m) _ := p; rw [okB_eq] at p'; exact post_ok s p' _ rfl
    | ref => obtain ⟨_, rfl⟩ := rx; have p' : PostE Y CV W σ ρ m H (okB true h m) _ := p; rw [okB_eq] at p'; exact post_ok s p' _ rfl
    | _ => exact p.elim
  | bl b =>
    obtain ⟨a, rfl, rfl, p⟩ := onBl_E rx (show PostE Y CV W σ ρ m H (onBl .bad (fun a => okB (Bool.rec (motive := fun _ => Bool) (Bool.rec (motive := fun _ => Bool) false true a) (Bool.rec (motive := fun _ => Bool) true false a) b) h m) v) _ from p)
    rw [okB_eq] at p
    exact .inr ⟨a, b, rfl, ry, post_ok s p _ (by cases a <;> cases b <;> rfl)⟩
  | _ => exact p.elim
end
end Dz

/-! set of a list of texts: how many differ -/
namespace Dz
open PySem PySem.Spec PyProof.Rows SS
/-- how many of the first i differ -/
def dn (xs : List Str) : Nat → Nat
  | 0 => 0
  | i + 1 => if ((xs.take i).any (· == xs.getD i Str.empty)) = true then dn xs i else dn xs i + 1
theorem dn_le (xs : List Str) : ∀ i, dn xs i ≤ i
  | 0 => Nat.le_refl _
  | i + 1 => by
    have := dn_le xs i
    unfold dn
    split <;> omega
section
variable {prog : Program} {w : World} {A : Around} {R : Result → Shared → Prop} {I : Addr} {fp wr : List Addr} {G : Array GenState → Array GenState → Prop} {n : Nat} {P : Nat → Value → Prop} {St : Nat → Shared → Prop}
theorem textsIn (W : WalksS prog w A.in1 I fp wr G n P St) (S : Addr) (hSf : S ∉ fp) (xs : List Str) (hsz : xs.length = n) (hn1 : n < 4000)
    (hval : ∀ i v, P i v → ∃ t, v = .str (xs.getD i Str.empty) t) :
    ∀ (k i : Nat) (s : Shared), n - i = k → i ≤ n → St i s →
      s.heap.SetOf (PySem.strKind prog w) S (fun k' => (xs.take i).any (· == k')) (dn xs i) →
      (∀ s', Moved (S :: wr) G s s' → s'.heap.SetOf (PySem.strKind prog w) S (fun k' => (xs.take n).any (· == k')) (dn xs n) → R (.ok (.ret .none)) s') →
      codeAny (model prog w) A (.builtin "set.update.loop" ⟨[.ref S, .ref I], []⟩) R s := by
  have out : S ∉ wr := fun h => hSf (W.sub _ h)
  intro k
  induction k with
  | zero =>
    intro i s hk hi hst hS hR
    have hin : i = n := by omega
    subst hin
    refine codeAny_builtin PyProof.Rows.F.entry_set_update_loop ?_
    rw [Around.under_plainId PyProof.Rows.F.plain_set_update_loop _]
    show wpAny _ A.in1 (pyNext (.ref I) >>= _) _ _ s
    refine wpAny_bind (W.done s _ _ hst fun s' hm => ?_)
    show wpAny _ A.in1 (ret Value.none) _ _ s'
    obtain ⟨o, es, ep, t, ho, rest⟩ := hS
    exact wpAny_pure (hR s' (hm.mono fun b hb => List.mem_cons_of_mem _ hb) ⟨o, es, ep, t, hm.heap S _ out ho, rest⟩)
  | succ k ih =>
    intro i s hk hi hst hS hR
    have hlt : i < n := by omega
    refine codeAny_builtin PyProof.Rows.F.entry_set_update_loop ?_
    rw [Around.under_plainId PyProof.Rows.F.plain_set_update_loop _]
    show wpAny _ A.in1 (pyNext (.ref I) >>= _) _ _ s
    refine wpAny_bind (W.item i s _ _ hlt hst fun v s' hP hst' hm => ?_)
    obtain ⟨t, rfl⟩ := hval i v hP
    have hS' : s'.heap.SetOf (PySem.strKind prog w) S (fun k' => (xs.take i).any (· == k')) (dn xs i) := by
      obtain ⟨o, es, ep, tb, ho, rest⟩ := hS
      exact ⟨o, es, ep, tb, hm.heap S _ out ho, rest⟩
    show wpAny _ A.in1 (holding [Value.str (xs.getD i Str.empty) t] (setAdd S (.str (xs.getD i Str.empty) t)) >>= _) _ _ s'
    refine wpAny_bind (wpAny_holding ?_)
    unfold setAdd
    refine wpAny_holding ?_
    refine wpAny_bind ((PySem.strKind prog w).pyHash (k := xs.getD i Str.empty) (strKind_is _ _ _ _) ?_)
    have hdn := dn_le xs i
    refine wpAny_setAddHashed_of (knd := PySem.strKind prog w) (s := { s' with toks := s'.toks + 1 }) (strKind_is _ _ _ _) rfl hS' (by unfold scanBound; omega) fun h' hsb hS2 => ?_
    have hi' : i < xs.length := by omega
    have ex : xs.take (i + 1) = xs.take i ++ [xs.getD i Str.empty] := by
      rw [List.take_succ, List.getElem?_eq_getElem hi', List.getD_eq_getElem?_getD, List.getElem?_eq_getElem hi']; rfl
    have hSi : h'.SetOf (PySem.strKind prog w) S (fun k' => (xs.take (i + 1)).any (· == k')) (dn xs (i + 1)) := by
      refine SetOf_congr hS2 (fun k' => ?_) rfl
      rw [ex, List.any_append]
      congr 1
      by_cases e : k' = xs.getD i Str.empty
      · rw [e]; simp
      · have hb : (xs.getD i Str.empty == k') = false := by simpa [beq_iff_eq] using (fun z : xs.getD i Str.empty = k' => e z.symm)
        simp only [List.any_cons, List.any_nil, Bool.or_false, hb]
        exact decide_eq_false e
    refine wpAny_pure ⟨plainId_quiet PyProof.Rows.F.plain_set_update_loop _, ih (i + 1) _ (by omega) hlt (W.frame _ s' _ _ hst' (Nat.le_succ _) fun b hb o e => ?_) hSi fun s'' hm'' hS'' => ?_⟩
    · rw [hsb.2 b (fun h : b = S => hSf (by rw [← h]; exact hb))]; exact e
    · refine hR s'' (Moved.trans W.gtrans ((hm.mono fun b hb => List.mem_cons_of_mem _ hb).then_heap (Nat.le_succ _) fun b o hb e => ?_) hm'') hS''
      rw [hsb.2 b (fun h : b = S => hb (by rw [h]; exact List.mem_cons_self))]; exact e
end
section
variable {prog : Program} {w : World} {A : Around} {E : Value → Shared → Prop} {s : Shared}
set_option maxHeartbeats 3200000 in
theorem setOfTexts {l : Addr} {items : Array Value} {xs : List Str} {Q : Value → Shared → Prop}
    (hh : A.handled = none) (hl : s.heap.IsList l items) (hi : PyProof.Rows.StrsAre items.toList xs) (hn1 : xs.length < 4000)
    (h : ∀ (h' : Heap) (tk : Nat), h'.SetOf (PySem.strKind prog w) s.heap.objs.size (fun k' => (xs.take items.size).any (· == k')) (dn xs items.size) →
      (∀ b o, b < s.heap.objs.size → s.heap.get? b = some o → h'.get? b = some o) → Q (.ref s.heap.objs.size) { s with heap := h', toks := tk }) :
    wpAny (model prog w) A (call (.type "set") [.ref l]) Q E s := by
  obtain ⟨c, tl, hmro⟩ := PySem.F.called_set.mro
  have hmade := PySem.F.called_set.made
  have hsub := PySem.F.called_set.sub
  refine wpAny_call (codeAny_of_tree ?_)
  show wpAny _ _ (callAny (.type "set") _) _ _ _
  refine wpAny_pure ⟨Code.quiet_builtin _ (by decide +kernel), codeAny_builtin PySem.F.entry_type_call ?_⟩
  rw [Around.under_plain (weight_type_call_type "set" [.ref l] []) rfl]
  have h1 := PySem.F.called_set.notType
  have h2 := PySem.F.called_set.canCreate
  have hct := PySem.F.typeCall_set_1 (.ref l)
  repeat (any_goals (first | assumption | wp_step))
  refine codeAny_mono (code_set_new_1 (.ref l) (E := E) (Q₁ := fun obj s₁ => ∃ led : Bool, obj = .ref s.heap.objs.size ∧ s₁ = { s with heap := s.heap.push { cls := .type "set", dict := none, data := .set #[] 0 (.fresh 0 0 led) } }) fun led => ⟨led, rfl, rfl⟩) fun r s₁ hr => ?_
  cases r with
  | error e => exact hr
  | ok fl =>
    cases fl with
    | ret obj =>
      obtain ⟨led, rfl, rfl⟩ := hr
      have hS : (s.heap.push { cls := .type "set", dict := none, data := .set #[] 0 (.fresh 0 0 led) }).get? s.heap.objs.size = some { cls := .type "set", dict := none, data := .set #[] 0 (.fresh 0 0 led) } := Heap.get?_push_size _ rfl
      have hT : Shared.TypeIs { s with heap := s.heap.push { cls := .type "set", dict := none, data := .set #[] 0 (.fresh 0 0 led) } } (.ref s.heap.objs.size) "set" := ⟨_, hS, rfl⟩
      have hli := PySem.F.called_set.init.lookup
      have hbi := PySem.F.called_set.init.bind (.ref s.heap.objs.size)
      repeat (any_goals (first | assumption | wp_step))
      refine codeAny_mono (codeAny_call_builtin (R := wants (fun r s₂ => r = .none ∧ ∃ h' tk, s₂ = { s with heap := h', toks := tk } ∧
          h'.SetOf (PySem.strKind prog w) s.heap.objs.size (fun k' => (xs.take items.size).any (· == k')) (dn xs items.size) ∧
          (∀ b o, b < s.heap.objs.size → s.heap.get? b = some o → h'.get? b = some o)) E) PySem.F.called_set.init.plain PySem.F.entry_set_init (check_set_init_1 hT ?_)) fun r₂ s₂ hr₂ => ?_
      · obtain ⟨ol, hol, hcl, nl, hdl⟩ := hl
        obtain ⟨ocls, odict, odata, oslots⟩ := ol
        simp only at hcl hdl
        subst hcl; subst hdl
        have hol' : (s.heap.push { cls := .type "set", dict := none, data := .set #[] 0 (.fresh 0 0 led) }).get? l = some { cls := .type "list", dict := odict, data := .seq items nl, slots := oslots } := Heap.get?_push_of_some _ hol
        have hsls := F.sub_list_set
        have hslf := F.sub_list_frozenset
        have hne : (Value.type "list" == Value.type "dict") = false := by decide
        have hl1 : (s.heap.push { cls := .type "set", dict := none, data := .set #[] 0 (.fresh 0 0 led) }).IsList l items := ⟨_, hol', rfl, nl, rfl⟩
        unfold Builtin.«set.__init__» noKeywords Builtin.Frozenset.updateFrom
        generalize hPI : pyIter = PI
        wp_walk
        subst hPI
        refine wpAny_pyIter_list hl1 ?_
        refine wpAny_bind (wpAny_runValue ?_)
        have hlS : l < s.heap.objs.size := Heap.lt_size hol
        have hh3 : A.in1.in1.in1.handled = none := by simp [hh]
        have hneI : l ≠ (s.heap.push { cls := .type "set", dict := none, data := .set #[] 0 (.fresh 0 0 led) }).objs.size := by
          rw [Heap.size_push]; exact Nat.ne_of_lt (Nat.lt_succ_of_lt hlS)
        have hSf : s.heap.objs.size ∉ [(s.heap.push { cls := .type "set", dict := none, data := .set #[] 0 (.fresh 0 0 led) }).objs.size, l] := by
          rw [Heap.size_push]; simp only [List.mem_cons, List.mem_singleton, List.not_mem_nil, or_false, not_or]
          exact ⟨Nat.ne_of_lt (Nat.lt_succ_self _), Nat.ne_of_gt hlS⟩
        have hsz : xs.length = items.size := by rw [← StrsAre.len_eq hi, Array.length_toList]
        have hval : ∀ (i : Nat) (v : Value), items[i]? = some v → ∃ t, v = .str (xs.getD i Str.empty) t := fun i v hv => strs_at hi i v (by rw [Array.getElem?_toList]; exact hv)
        refine textsIn ((Walks.list hh3 _ l hneI items).toS) s.heap.objs.size
          hSf xs hsz (by rw [← hsz]; exact hn1) hval (items.size - 0) 0 _ (by omega) (Nat.zero_le _)
          ⟨⟨_, Heap.get?_push_size _ rfl, rfl, rfl⟩, (hl1.push _)⟩ ?hS0 ?hR
        case hS0 =>
          have hget : ((s.heap.push { cls := .type "set", dict := none, data := .set #[] 0 (.fresh 0 0 led) }).push { cls := .type "list_iterator", data := .fields #[.ref l, .int 0 0] }).get? s.heap.objs.size
              = some { cls := .type "set", dict := none, data := .set #[] 0 (.fresh 0 0 led) } := Heap.get?_push_of_some _ hS
          exact PyProof.Rows.SetOf_congr ((PyProof.Rows.setObjOf_fresh (knd := PySem.strKind prog w) led).setOf hget (by unfold scanBound; omega)) (fun _ => rfl) rfl
        case hR =>
          intro s' hm hS'
          obtain ⟨h', g', d', tk', os'⟩ := s'
          have eg : g' = s.gens := hm.gens
          have ed : d' = s.drawn := hm.drawn
          have eo : os' = s.os := hm.os
          subst eg; subst ed; subst eo
          show wpAny _ _ _ _ _ _
          refine wpAny_pure ?_
          show wpAny _ _ (ret Value.none) _ _ _
          refine wpAny_pure ⟨rfl, h', tk', rfl, hS', fun b o hb e => ?_⟩
          have hb1 : b ≠ s.heap.objs.size := Nat.ne_of_lt hb
          have hb2 : b ≠ (s.heap.push { cls := .type "set", dict := none, data := .set #[] 0 (.fresh 0 0 led) }).objs.size := by
            rw [Heap.size_push]; exact Nat.ne_of_lt (Nat.lt_succ_of_lt hb)
          exact hm.heap b o (by simp only [List.mem_cons, List.mem_singleton, List.not_mem_nil, or_false, not_or]; exact ⟨hb1, hb2⟩) (Heap.get?_push_of_some _ (Heap.get?_push_of_some _ e))
      · cases r₂ with
        | error e => exact hr₂
        | ok fl₂ =>
          cases fl₂ with
          | ret r =>
            obtain ⟨rfl, h', tk, rfl, hS', hk'⟩ := hr₂
            repeat (any_goals (first | assumption | wp_step))
            exact h _ _ hS' hk'
          | _ => exact hr₂.elim
    | _ => exact hr.elim
end
end Dz
namespace Dz
open PySem PySem.Spec PyProof.Rows L2
/-- len(set(xs)), xs a list of texts -/
def tLenSet (K : PySem.W.Frag) (ta : TE) : TE := fun σ H Q => ta σ H fun x H1 => ∃ l, ∃ xs : List Str, x = .ref l ∧ SqL K H1 l (xs.map V.str) ∧ xs.length < 4000 ∧ Q (.int (dn xs xs.length : Nat)) H1
theorem pe_lenSet {X : Cx} {a : Expr} {ta : TE} {p p2 q pos : Pos} (hc : X.calm = true) (hg : Gl X "len") (hm : X.mg "len" = none) (hg2 : Gl X "set") (hm2 : X.mg "set" = none) (ha : PE X a ta)
    (na : starEach [a] X.env = (false, eval a X.env) :: starEach [] X.env := by rfl) : PE X (.Call (.Name "len" p) [.Call (.Name "set" p2) [a] [] q] [] pos) (tLenSet X.K ta) := by
  refine ⟨fun pins s σ H Q I h => ?_⟩
  refine Call_ (ld_blt I hg hm boot_len ?_)
  refine PyProof.Rows.callWith_builtin1 (PyProof.Rows.args_cons ?_ rfl) rfl rfl
  refine Call_ (ld_blt I hg2 hm2 boot_set ?_)
  refine PyProof.Rows.callWith_type1 (PyProof.Rows.args_cons (thn (ha.run pins s σ H _ I h) fun v s1 ⟨x, H1, I1, r1, q1⟩ => PyProof.Rows.args_nil ?_) na) na rfl
  obtain ⟨l, xs, rfl, hq, h1, q1⟩ := q1
  cases r1
  obtain ⟨its, r, pl, hz⟩ := I1.list hq
  have hl : its.toArray.size = xs.length := by rw [List.size_toArray, ← r.length, List.length_map]
  refine setOfTexts (I1.ok.hd hc) pl.isList (by simpa using strsAre_of r) h1 fun h' tk hS hk => ?_
  refine PyProof.Rows.args_nil ?_
  rw [hl] at hS
  obtain ⟨o, es, ep, t, ho, hex, hd, _, _, _, hf, hn⟩ := hS
  have I2 : Inv X pins σ H1 { s1 with heap := h', toks := tk } := I1.kept fun b o e => hk b o (Heap.lt_size e) e
  have hdn := dn_le xs xs.length
  exact call_len_set ho hex hd hf (by rw [hn]; omega) ⟨.int (dn xs xs.length : Nat), H1, I2.tok _, ⟨_, by rw [hn]⟩, q1⟩
end Dz

namespace Dz
open PySem L2
/-! ### built-ins of one and two arguments -/
noncomputable def on1 (k : EV → RE) (v : EV) : RE := onCons .bad (fun x t => onNil .bad (k x) t) v
noncomputable def on2 (k : EV → EV → RE) (v : EV) : RE := onCons .bad (fun x t => onCons .bad (fun y t => onNil .bad (k x y) t) t) v
section
variable {Y : Fix} {X : Cx} {CV : Nat → Value} {W : WX} {σ : L2.St} {ρ ρ1 : Pl} {m m1 : Nat} {H H1 : Hp} {h : Tr} {K : KE}
theorem on1_E {k : EV → RE} {v : EV} {xs : List V} (rl : RL Y ρ m H v xs) (p : PostE Y CV W σ ρ1 m1 H1 (on1 k v) K) : ∃ a x, v = .cons a .nil ∧ xs = [x] ∧ R Y ρ m H a x ∧ PostE Y CV W σ ρ1 m1 H1 (k a) K := by
  obtain ⟨a, r, x, t, rfl, rfl, ra, rr, p⟩ := onCons_E rl p
  obtain ⟨rfl, rfl, p⟩ := onNil_E rr p
  exact ⟨a, x, rfl, rfl, ra, p⟩
theorem on2_E {k : EV → EV → RE} {v : EV} {xs : List V} (rl : RL Y ρ m H v xs) (p : PostE Y CV W σ ρ1 m1 H1 (on2 k v) K) : ∃ a b x y, xs = [x, y] ∧ R Y ρ m H a x ∧ R Y ρ m H b y ∧ PostE Y CV W σ ρ1 m1 H1 (k a b) K := by
  obtain ⟨a, r, x, t, rfl, rfl, ra, rr, p⟩ := onCons_E rl p
  obtain ⟨b, r, y, t, rfl, rfl, rb, rr, p⟩ := onCons_E rr p
  obtain ⟨rfl, rfl, p⟩ := onNil_E rr p
  exact ⟨a, b, x, y, rfl, ra, rb, p⟩
/-! len -/
noncomputable def lenR (xs : EV) (h : Tr) (m : Nat) : RE := lenK xs 0 fun n => .ok (.int (.ofNat n)) h m
noncomputable def lenD : EV → Nat → Tr → Nat → RE := fun kvs n h m => lenR kvs h m
noncomputable def fLen : EV → Tr → Nat → RE := fun v h m => on1 (fun x => EV.rec (motive := fun _ => RE) .bad (fun _ => .bad) (fun _ => .bad) (fun s _ => elist .bad (lenOk s (lenR s h m)) (fun _ _ _ => lenOk s (lenR s h m)) s) .bad (fun _ _ _ _ => .bad) (fun xs _ => lenR xs h m) (fun _ _ => .bad)
  (fun i => onLst .bad (fun xs => lenR xs h m) (tget h i)) (fun _ => .bad) (fun _ => .bad) x) v
def rLen (K : PySem.W.Frag) : List V → Hp → VK → Prop := fun xs H Q => (∃ p ys, xs = [.ref p] ∧ (SqL K H p ys ∨ SqT K H p ys) ∧ Q (.int ys.length) H) ∨ (∃ z : Str, xs = [.str z] ∧ z.length ≤ sizeLine ∧ Q (.int z.length) H)
theorem call_lenE : CallR X (.builtin "len") (rLen X.K) := callR_or call_len_seq call_len_str
theorem lenR_E {e : EV} {vs : List V} (rl : RL Y ρ m H e vs) {m' : Nat} (p : PostE Y CV W σ ρ1 m1 H1 (lenR e h m') K) : PostE Y CV W σ ρ1 m1 H1 (.ok (.int (.ofNat vs.length)) h m') K := by
  unfold lenR at p
  rw [lenK_RL e vs rl, Nat.zero_add] at p
  exact p
theorem o_len {Kf : PySem.W.Frag} : OpN Y CV W fLen (rLen Kf) := fun σ ρ m h H v xs Q s rl q => by
  obtain ⟨a, x, rfl, rfl, ra, q⟩ := on1_E rl q
  cases a with
  | str c =>
    obtain ⟨l, hl, rfl⟩ := ra
    obtain ⟨cl, q⟩ := plain_str (d := RE.bad) (P := fun r => PostE Y CV W σ ρ m H r fun ρ' m' _ H' z => ∀ u, R Y ρ' m' H' z u → Q u H') (fun z => z) hl q
    obtain ⟨hn, q⟩ := lenOk_codes cl q
    have q' : PostE Y CV W σ ρ m H (lenK c 0 fun n => .ok (.int (.ofNat n)) h m) _ := q
    rw [lenK_codes c l cl, Nat.zero_add] at q'
    exact .inr ⟨⟨l.toArray⟩, rfl, Nat.le_of_lt (small16 (by simpa [PySem.Str.length] using hn)), post_ok s q' _ (by show V.int _ = V.int _; simp [PySem.Str.length])⟩
  | tup e => obtain ⟨p, vs, rfl, hv, _, re⟩ := ra; exact .inl ⟨p, vs, rfl, .inr (SqT.of hv), post_ok s (lenR_E re q) _ rfl⟩
  | ref i =>
    obtain ⟨hi, rfl⟩ := ra
    obtain ⟨e, vs, _, hv, re, q⟩ := onLst_E s hi q
    exact .inl ⟨_, vs, rfl, .inl (SqL.of hv), post_ok s (lenR_E re q) _ rfl⟩
  | _ => exact q.elim
/-! all, any, sum, min, max of a list -/
noncomputable def allE (e : EV) : (Bool → RE) → RE := elist (fun _ => .bad) (fun k => k true) (fun x _ ih k => onBl .bad (fun b => ih fun r => k (andB b r)) x) e
noncomputable def orB (a b : Bool) : Bool := Bool.rec (motive := fun _ => Bool) b true a
theorem orB_eq (a b : Bool) : orB a b = (a || b) := by cases a <;> rfl
noncomputable def anyE (e : EV) : (Bool → RE) → RE := elist (fun _ => .bad) (fun k => k false) (fun x _ ih k => onBl .bad (fun b => ih fun r => k (orB b r)) x) e
theorem allE_of {P : RE → Prop} (hb : ¬ P .bad) : ∀ (e : EV) (vs : List V) (k : Bool → RE), RL Y ρ m H e vs → P (allE e k) → ∃ bs : List Bool, vs = bs.map V.bl ∧ P (k (bs.all id))
  | e, [], k, rl, p => by
    cases rl.nil_of
    exact ⟨[], rfl, p⟩
  | e, x :: vs, k, rl, p => by
    obtain ⟨v, t, z, rv, rt⟩ := rl.cons_of
    subst z
    obtain ⟨b, rfl, rfl, p⟩ := onBl_of hb rv (show P (onBl .bad (fun b => allE t fun r => k (andB b r)) v) from p)
    obtain ⟨bs, rfl, q⟩ := allE_of hb t vs _ rt p
    rw [andB_eq] at q
    exact ⟨b :: bs, rfl, q⟩
theorem anyE_of {P : RE → Prop} (hb : ¬ P .bad) : ∀ (e : EV) (vs : List V) (k : Bool → RE), RL Y ρ m H e vs → P (anyE e k) → ∃ bs : List Bool, vs = bs.map V.bl ∧ P (k (bs.any id))
  | e, [], k, rl, p => by
    cases rl.nil_of
    exact ⟨[], rfl, p⟩
  | e, x :: vs, k, rl, p => by
    obtain ⟨v, t, z, rv, rt⟩ := rl.cons_of
    subst z
    obtain ⟨b, rfl, rfl, p⟩ := onBl_of hb rv (show P (onBl .bad (fun b => anyE t fun r => k (orB b r)) v) from p)
    obtain ⟨bs, rfl, q⟩ := anyE_of hb t vs _ rt p
    rw [orB_eq] at q
    exact ⟨b :: bs, rfl, q⟩
noncomputable def fAll : EV → Tr → Nat → RE := fun v h m => on1 (fun x => onRef .bad (fun i => onLst .bad (fun e => allE e fun b => okB b h m) (tget h i)) x) v
noncomputable def fAny : EV → Tr → Nat → RE := fun v h m => on1 (fun x => onRef .bad (fun i => onLst .bad (fun e => anyE e fun b => okB b h m) (tget h i)) x) v
theorem o_all {Kf : PySem.W.Frag} : OpN Y CV W fAll (rAll Kf) := fun σ ρ m h H v xs Q s rl q => by
  obtain ⟨a, x, rfl, rfl, ra, q⟩ := on1_E rl q
  obtain ⟨i, rfl, hi, rfl, q⟩ := onRef_E ra q
  obtain ⟨e, vs, _, hv, re, q⟩ := onLst_E s hi q
  obtain ⟨bs, rfl, q⟩ := allE_of (P := fun r => PostE Y CV W σ ρ m H r fun ρ' m' _ H' z => ∀ u, R Y ρ' m' H' z u → Q u H') (fun z => z) e vs _ re q
  rw [okB_eq] at q
  exact ⟨_, bs, rfl, SqL.of hv, post_ok s q _ rfl⟩
theorem o_any {Kf : PySem.W.Frag} : OpN Y CV W fAny (rAny Kf) := fun σ ρ m h H v xs Q s rl q => by
  obtain ⟨a, x, rfl, rfl, ra, q⟩ := on1_E rl q
  obtain ⟨i, rfl, hi, rfl, q⟩ := onRef_E ra q
  obtain ⟨e, vs, _, hv, re, q⟩ := onLst_E s hi q
  obtain ⟨bs, rfl, q⟩ := anyE_of (P := fun r => PostE Y CV W σ ρ m H r fun ρ' m' _ H' z => ∀ u, R Y ρ' m' H' z u → Q u H') (fun z => z) e vs _ re q
  rw [okB_eq] at q
  exact ⟨_, bs, rfl, SqL.of hv, post_ok s q _ rfl⟩
/-- numbers folded -/
noncomputable def foldE (f : Int → Int → Int) (e : EV) : Int → (Int → RE) → RE := elist (fun _ _ => .bad) (fun a k => k a) (fun x _ ih a k => onInt .bad (fun i => forceI (f a i) fun b => ih b k) x) e
theorem foldE_of {P : RE → Prop} (hb : ¬ P .bad) {f : Int → Int → Int} : ∀ (e : EV) (vs : List V) (a : Int) (k : Int → RE), RL Y ρ m H e vs → P (foldE f e a k) → ∃ ns : List Int, vs = ns.map V.int ∧ P (k (ns.foldl f a))
  | e, [], a, k, rl, p => by
    cases rl.nil_of
    exact ⟨[], rfl, p⟩
  | e, x :: vs, a, k, rl, p => by
    obtain ⟨v, t, z, rv, rt⟩ := rl.cons_of
    subst z
    obtain ⟨i, rfl, rfl, p⟩ := onInt_of hb rv (show P (onInt .bad (fun i => forceI (f a i) fun b => foldE f t b k) v) from p)
    rw [forceI_eq] at p
    obtain ⟨ns, rfl, q⟩ := foldE_of hb t vs _ k rt p
    exact ⟨i :: ns, rfl, q⟩
noncomputable def fSum : EV → Tr → Nat → RE := fun v h m => on1 (fun x => onRef .bad (fun i => onLst .bad (fun e => foldE Int.add e 0 fun n => .ok (.int n) h m) (tget h i)) x) v
theorem foldl_add : ∀ (ns : List Int) (a : Int), ns.foldl Int.add a = a + ns.sum
  | [], a => by simp
  | n :: ns, a => by
    show ns.foldl Int.add (Int.add a n) = _
    rw [foldl_add ns, List.sum_cons]
    show a + n + ns.sum = _
    omega
theorem o_sum {Kf : PySem.W.Frag} : OpN Y CV W fSum (rSum Kf) := fun σ ρ m h H v xs Q s rl q => by
  obtain ⟨a, x, rfl, rfl, ra, q⟩ := on1_E rl q
  obtain ⟨i, rfl, hi, rfl, q⟩ := onRef_E ra q
  obtain ⟨e, vs, _, hv, re, q⟩ := onLst_E s hi q
  obtain ⟨ns, rfl, q⟩ := foldE_of (P := fun r => PostE Y CV W σ ρ m H r fun ρ' m' _ H' z => ∀ u, R Y ρ' m' H' z u → Q u H') (fun z => z) e vs 0 _ re q
  rw [foldl_add, Int.zero_add] at q
  exact ⟨_, ns, rfl, SqL.of hv, post_ok s q _ rfl⟩
noncomputable def minI (i j : Int) : Int := Bool.rec (motive := fun _ => Int) i j (ltI j i)
noncomputable def maxI (i j : Int) : Int := Bool.rec (motive := fun _ => Int) i j (ltI i j)
theorem minI_eq (i j : Int) : minI i j = if j < i then j else i := by
  unfold minI
  rw [ltI_eq]
  by_cases h : j < i
  · rw [decide_eq_true h, if_pos h]
  · rw [decide_eq_false h, if_neg h]
theorem maxI_eq (i j : Int) : maxI i j = if j > i then j else i := by
  unfold maxI
  rw [ltI_eq]
  by_cases h : i < j
  · rw [decide_eq_true h, if_pos h]
  · rw [decide_eq_false h, if_neg h]
/-- of two numbers, or of a list of numbers -/
noncomputable def fMm (f : Int → Int → Int) : EV → Tr → Nat → RE := fun v h m => onCons .bad (fun x t => onRef (onInt .bad (fun i => on1 (fun y => onInt .bad (fun j => okInt (f i j) h m) y) t) x) (fun a => onNil .bad (onLst .bad (fun e => onCons .bad (fun z r => onInt .bad (fun i => foldE f r i fun n => .ok (.int n) h m) z) e) (tget h a)) t) x) v
def rMinE (K : PySem.W.Frag) : List V → Hp → VK → Prop := fun xs H Q => (∃ i j, xs = [.int i, .int j] ∧ Q (.int (if j < i then j else i)) H) ∨ rMin K xs H Q
def rMaxE (K : PySem.W.Frag) : List V → Hp → VK → Prop := fun xs H Q => (∃ i j, xs = [.int i, .int j] ∧ Q (.int (if j > i then j else i)) H) ∨ rMax K xs H Q
theorem call_minE (hc : X.calm = true) : CallR X (.builtin "min") (rMinE X.K) := callR_or (call_min2 hc) (cr_min hc)
theorem call_maxE (hc : X.calm = true) : CallR X (.builtin "max") (rMaxE X.K) := callR_or (call_max2 hc) (cr_max hc)
theorem mm_E {f : Int → Int → Int} {v : EV} {xs : List V} {Q : VK} (s : S Y ρ m h H) (rl : RL Y ρ m H v xs) (q : PostE Y CV W σ ρ m H (fMm f v h m) fun ρ' m' _ H' z => ∀ u, R Y ρ' m' H' z u → Q u H') :
    (∃ i j, xs = [.int i, .int j] ∧ Q (.int (f i j)) H) ∨ ∃ a i ns, xs = [V.ref a] ∧ H a = some (.lst ((i :: ns).map V.int)) ∧ Q (.int (ns.foldl f i)) H := by
  obtain ⟨x, t, vx, vt, rfl, rfl, rx, rt, q⟩ := onCons_E rl q
  cases x with
  | int i =>
    obtain ⟨b, y, rfl, rfl, rb, q⟩ := on1_E rt (show PostE Y CV W σ ρ m H (on1 (fun y => onInt .bad (fun j => okInt (f i j) h m) y) t) _ from q)
    obtain ⟨j, rfl, rfl, q⟩ := onInt_E rb q
    rw [okInt_eq] at q
    cases (show vx = .int i from rx)
    exact .inl ⟨i, j, rfl, post_ok s q _ rfl⟩
  | ref a =>
    obtain ⟨hi, rfl⟩ := rx
    obtain ⟨rfl, rfl, q⟩ := onNil_E rt (show PostE Y CV W σ ρ m H (onNil .bad (onLst .bad (fun e => onCons .bad (fun z r => onInt .bad (fun i => foldE f r i fun n => .ok (.int n) h m) z) e) (tget h a)) t) _ from q)
    obtain ⟨e, vs, _, hv, re, q⟩ := onLst_E s hi q
    obtain ⟨z, r, vz, vr, rfl, rfl, rz, rr, q⟩ := onCons_E re q
    obtain ⟨i, rfl, rfl, q⟩ := onInt_E rz q
    obtain ⟨ns, rfl, q⟩ := foldE_of (P := fun r => PostE Y CV W σ ρ m H r fun ρ' m' _ H' z => ∀ u, R Y ρ' m' H' z u → Q u H') (fun z => z) r vr i _ rr q
    exact .inr ⟨ρ a, i, ns, rfl, hv, post_ok s q _ rfl⟩
  | _ => exact q.elim
theorem fold_min : ∀ (ns : List Int) (i : Int), (ns.foldl minI i = i ∨ ns.foldl minI i ∈ ns) ∧ ns.foldl minI i ≤ i ∧ ∀ y ∈ ns, ns.foldl minI i ≤ y
  | [], i => ⟨.inl rfl, Int.le_refl _, fun _ h => nomatch h⟩
  | n :: ns, i => by
    obtain ⟨h1, h2, h3⟩ := fold_min ns (minI i n)
    have e := minI_eq i n
    show (ns.foldl minI (minI i n) = i ∨ ns.foldl minI (minI i n) ∈ n :: ns) ∧ ns.foldl minI (minI i n) ≤ i ∧ _
    refine ⟨?_, ?_, fun y hy => ?_⟩
    · rcases h1 with h1 | h1
      · rw [h1, e]
        split
        · exact .inr List.mem_cons_self
        · exact .inl rfl
      · exact .inr (List.mem_cons_of_mem _ h1)
    · refine Int.le_trans h2 ?_
      rw [e]; split <;> omega
    · rcases List.mem_cons.mp hy with rfl | hy
      · refine Int.le_trans h2 ?_
        rw [e]; split <;> omega
      · exact h3 y hy
theorem fold_max : ∀ (ns : List Int) (i : Int), (ns.foldl maxI i = i ∨ ns.foldl maxI i ∈ ns) ∧ i ≤ ns.foldl maxI i ∧ ∀ y ∈ ns, y ≤ ns.foldl maxI i
  | [], i => ⟨.inl rfl, Int.le_refl _, fun _ h => nomatch h⟩
  | n :: ns, i => by
    obtain ⟨h1, h2, h3⟩ := fold_max ns (maxI i n)
    have e := maxI_eq i n
    show (ns.foldl maxI (maxI i n) = i ∨ ns.foldl maxI (maxI i n) ∈ n :: ns) ∧ i ≤ ns.foldl maxI (maxI i n) ∧ _
    refine ⟨?_, ?_, fun y hy => ?_⟩
    · rcases h1 with h1 | h1
      · rw [h1, e]
        split
        · exact .inr List.mem_cons_self
        · exact .inl rfl
      · exact .inr (List.mem_cons_of_mem _ h1)
    · refine Int.le_trans ?_ h2
      rw [e]; split <;> omega
    · rcases List.mem_cons.mp hy with rfl | hy
      · refine Int.le_trans ?_ h2
        rw [e]; split <;> omega
      · exact h3 y hy
theorem o_min {Kf : PySem.W.Frag} : OpN Y CV W (fMm minI) (rMinE Kf) := fun σ ρ m h H v xs Q s rl q => by
  rcases mm_E s rl q with ⟨i, j, rfl, q⟩ | ⟨a, i, ns, rfl, hv, q⟩
  · rw [minI_eq] at q
    exact .inl ⟨i, j, rfl, q⟩
  · obtain ⟨h1, h2, h3⟩ := fold_min ns i
    refine .inr ⟨a, i :: ns, rfl, SqL.of hv, Nat.succ_pos _, fun k hk hl => ?_⟩
    have e : ns.foldl minI i = k := by
      have a1 : k ≤ ns.foldl minI i := hl _ (by rcases h1 with h1 | h1; · rw [h1]; exact List.mem_cons_self
                                                · exact List.mem_cons_of_mem _ h1)
      have a2 : ns.foldl minI i ≤ k := by
        rcases List.mem_cons.mp hk with rfl | hk
        · exact h2
        · exact h3 k hk
      omega
    rw [e] at q
    exact q
theorem o_max {Kf : PySem.W.Frag} : OpN Y CV W (fMm maxI) (rMaxE Kf) := fun σ ρ m h H v xs Q s rl q => by
  rcases mm_E s rl q with ⟨i, j, rfl, q⟩ | ⟨a, i, ns, rfl, hv, q⟩
  · rw [maxI_eq] at q
    exact .inl ⟨i, j, rfl, q⟩
  · obtain ⟨h1, h2, h3⟩ := fold_max ns i
    refine .inr ⟨a, i :: ns, rfl, SqL.of hv, Nat.succ_pos _, fun k hk hl => ?_⟩
    have e : ns.foldl maxI i = k := by
      have a1 : ns.foldl maxI i ≤ k := hl _ (by rcases h1 with h1 | h1; · rw [h1]; exact List.mem_cons_self
                                                · exact List.mem_cons_of_mem _ h1)
      have a2 : k ≤ ns.foldl maxI i := by
        rcases List.mem_cons.mp hk with rfl | hk
        · exact h2
        · exact h3 k hk
      omega
    rw [e] at q
    exact q
/-! int, list, tuple -/
noncomputable def fInt : EV → Tr → Nat → RE := fun v h m => on1 (fun x => onBl (onInt .bad (fun i => .ok (.int i) h m) x) (fun b => .ok (.int (b2i' b)) h m) x) v
def rInt1 : List V → Hp → VK → Prop := fun xs H Q => (∃ i, xs = [.int i] ∧ Q (.int i) H) ∨ ∃ k, xs = [.bl k] ∧ Q (.int (if k then 1 else 0)) H
theorem call_intE : CallR X (.type "int") rInt1 := call_int1
theorem o_int1 : OpN Y CV W fInt rInt1 := fun σ ρ m h H v xs Q s rl q => by
  obtain ⟨a, x, rfl, rfl, ra, q⟩ := on1_E rl q
  cases a with
  | int i => exact .inl ⟨i, by rw [show x = .int i from ra], post_ok s q _ rfl⟩
  | bl b => exact .inr ⟨b, by rw [show x = .bl b from ra], post_ok s q _ (by cases b <;> rfl)⟩
  | _ => exact q.elim
noncomputable def fList : EV → Tr → Nat → RE := fun v h m => on1 (fun x => seqK (fun e => newK (.lst e) h m) (fun e => newK (.lst e) h m) x h) v
def rList1 (K : PySem.W.Frag) : List V → Hp → VK → Prop := fun xs H Q => ∃ p ys, xs = [.ref p] ∧ (SqL K H p ys ∨ SqT K H p ys) ∧ ∀ l, H l = none → Q (.ref l) (upd H l (.lst ys))
theorem call_listE : CallR X (.type "list") (rList1 X.K) := call_list_of
theorem o_list1 {Kf : PySem.W.Frag} : OpN Y CV W fList (rList1 Kf) := fun σ ρ m h H v xs Q s rl q => by
  obtain ⟨a, x, rfl, rfl, ra, q⟩ := on1_E rl q
  obtain ⟨p, vs, e, rfl, re, q⟩ := seqK_E s ra q
  rcases q with ⟨hv, _, q⟩ | ⟨hv, _, _, q⟩
  · exact ⟨p, vs, rfl, .inl (SqL.of hv), fun l hl => new_list s re hl q⟩
  · exact ⟨p, vs, rfl, .inr (SqT.of hv), fun l hl => new_list s re hl q⟩
noncomputable def fTuple : EV → Tr → Nat → RE := fun v h m => on1 (fun x => seqK (fun e => .ok (.tup e) h m) (fun e => .ok (.tup e) h m) x h) v
def rTup1 (K : PySem.W.Frag) : List V → Hp → VK → Prop := fun xs H Q => ∃ p ys, xs = [.ref p] ∧ ((SqL K H p ys ∧ ∀ l, H l = none → Q (.ref l) (upd H l (.tup ys))) ∨ (SqT K H p ys ∧ Q (.ref p) H))
theorem call_tupE : CallR X (.type "tuple") (rTup1 X.K) := call_tuple_of
theorem o_tup1 {Kf : PySem.W.Frag} : OpN Y CV W fTuple (rTup1 Kf) := fun σ ρ m h H v xs Q s rl q => by
  obtain ⟨a, x, rfl, rfl, ra, q⟩ := on1_E rl q
  obtain ⟨p, vs, e, rfl, re, q⟩ := seqK_E s ra q
  rcases q with ⟨hv, _, q⟩ | ⟨hv, _, ho, q⟩
  · exact ⟨p, vs, rfl, .inl ⟨SqL.of hv, fun l hl => post_new s hl q _ (R.tup s hl re)⟩⟩
  · exact ⟨p, vs, rfl, .inr ⟨SqT.of hv, post_ok s q _ ⟨p, vs, rfl, hv, ho, re⟩⟩⟩
end
/-! ### calls of built-ins -/
theorem few_plain {pos : Pos} {env : Env} {es : List Expr} (h : es.all plainE = true) (hn : es.length < 29) : ((backTo pos (starEach es env)).all (fun x => !x.1) && (backToKw pos (keywordEach [] env)).all (fun x => x.1.isSome)
      && decide (es.length + ([] : List Keyword).length + (if ([] : List Keyword).isEmpty then 0 else 1) < 30)) = true := by
  have e : ∀ es : List Expr, es.all plainE = true → (backTo pos (starEach es env)).all (fun x => !x.1) = true := fun es => by
    induction es with
    | nil => intro _; rfl
    | cons e es ih =>
      intro h
      obtain ⟨h1, h2⟩ := Bool.and_eq_true_iff.mp (show (plainE e && es.all plainE) = true from h)
      rw [star_plain h1]
      show (true && (backTo pos (starEach es env)).all (fun x => !x.1)) = true
      rw [ih h2]; rfl
  rw [e es h]
  show (true && true && decide (es.length + 0 + 0 < 30)) = true
  rw [decide_eq_true (by omega)]; rfl
section
variable {Y : Fix} {X : Cx} {CV : Nat → Value} {W : WX} {ca a : CE} {es : List Expr} {ea : Expr} {pos p apos cpos : Pos} {x : Str}
theorem de_cb {id : String} {f : EV → Tr → Nat → RE} {r : List V → Hp → VK → Prop} (hc : CallR X (.builtin id) r) (hf : OpN Y CV W f r) (hg : Gl X x) (hm : X.mg x = none) (hv : bootBuiltins x = some (.builtin id)) (ha : PA X es (tA Y CV W ca))
    (hn : x ≠ "__name__") (hdb : (x == ("__debug__" : Str)) = false) (he : es.all plainE = true) (h0 : es ≠ []) : PE X (.Call (.Name x p) es [] pos) (tE Y CV W (eUn f ca)) := by
  cases es with
  | nil => exact absurd rfl h0
  | cons e es =>
    obtain ⟨he1, he2⟩ := Bool.and_eq_true_iff.mp (show (plainE e && es.all plainE) = true from he)
    exact pe_mono (pe_callB hc hg hm hv ha hn hdb (star_plain he1) (any_plain he2)) fun σ H Q t => ta_n hf t
theorem de_cty {T : String} {f : EV → Tr → Nat → RE} {r : List V → Hp → VK → Prop} (hc : CallR X (.type T) r) (hf : OpN Y CV W f r) (hg : Gl X x) (hm : X.mg x = none) (hv : bootBuiltins x = some (.type T)) (ha : PA X es (tA Y CV W ca))
    (hn : x ≠ "__name__") (hdb : (x == ("__debug__" : Str)) = false) (he : es.all plainE = true) (h0 : es ≠ []) : PE X (.Call (.Name x p) es [] pos) (tE Y CV W (eUn f ca)) := by
  cases es with
  | nil => exact absurd rfl h0
  | cons e es =>
    obtain ⟨he1, he2⟩ := Bool.and_eq_true_iff.mp (show (plainE e && es.all plainE) = true from he)
    exact pe_mono (pe_callTy hc hg hm hv ha hn hdb (star_plain he1) (any_plain he2)) fun σ H Q t => ta_n hf t
/-! isinstance: the answers for None, a bool, an int, a text, a tuple, a list -/
structure Isi where
  (b1 b2 b3 b4 b5 b6 : Bool)
noncomputable def fIsi (b : Isi) : EV → Tr → Nat → RE := fun v h m => EV.rec (motive := fun _ => RE) (okB b.b1 h m) (fun _ => okB b.b2 h m) (fun _ => okB b.b3 h m) (fun _ _ => okB b.b4 h m) .bad (fun _ _ _ _ => .bad) (fun _ _ => okB b.b5 h m) (fun _ _ => .bad)
  (fun i => onLst .bad (fun _ => okB b.b6 h m) (tget h i)) (fun _ => .bad) (fun _ => .bad) v
def Isi.ok (b : Isi) (T : String) : Bool := decide (kitB "NoneType" T = some b.b1) && decide (kitB "bool" T = some b.b2) && decide (kitB "int" T = some b.b3) && decide (kitB "str" T = some b.b4) && decide (kitB "tuple" T = some b.b5) && decide (kitB "list" T = some b.b6)
theorem de_isi {T : String} {b : Isi} {p2 : Pos} (hg : Gl X "isinstance") (hm : X.mg "isinstance" = none) (ha : PE X ea (tE Y CV W a)) (hT : PE X (.Name x p2) (tC (.ty T))) (hb : b.ok T = true) (hpl : plainE ea = true) :
    PE X (.Call (.Name "isinstance" p) [ea, .Name x p2] [] pos) (tE Y CV W (eUn (fIsi b) a)) := by
  unfold Isi.ok at hb
  simp only [Bool.and_eq_true, decide_eq_true_iff] at hb
  obtain ⟨⟨⟨⟨⟨t1, t2⟩, t3⟩, t4⟩, t5⟩, t6⟩ := hb
  refine pe_mono (pe_callB call_isi hg hm (by decide +kernel) (pa_cons ha (pa_cons hT pa_nil (by rfl)) (star_plain hpl)) (by decide) (by decide) (star_plain hpl) (by rfl)) fun σ H Q ⟨l, h, m, ρ, s, lr, q⟩ => ⟨l, h, m, ρ, s, lr, PostE.mono (PostE.bind q) fun g1 m1 h1 H1 v e1 s1 q1 y ry => ?_⟩
  have fin : ∀ {tn : String} {c : Bool}, TyX X.K H1 y (.type tn) → kitB tn T = some c → PostE Y CV W σ g1 m1 H1 (okB c h1 m1) (fun ρ' m' _ H' v => ∀ x, R Y ρ' m' H' v x → Q x H') → rIsi X.K [y, .ty T] H1 Q := fun ty kb q => by
    rw [okB_eq] at q
    exact ⟨y, .ty T, _, _, _, rfl, .ty T, ty, kit_ty kb, post_ok s1 q _ rfl⟩
  cases v with
  | non => cases (show y = .non from ry); exact fin (.base .non) t1 q1
  | bl i => cases (show y = .bl i from ry); exact fin (.base (.bl i)) t2 q1
  | int i => cases (show y = .int i from ry); exact fin (.base (.int i)) t3 q1
  | str i => obtain ⟨k, _, rfl⟩ := ry; exact fin (.base (.str _)) t4 q1
  | tup xs => obtain ⟨a, vs, rfl, hv, _⟩ := ry; exact fin (.base (.tup hv)) t5 q1
  | ref i =>
    obtain ⟨hi, rfl⟩ := ry
    obtain ⟨_, vs, _, hv, _, q2⟩ := onLst_E s1 hi q1
    exact fin (.base (.lst hv)) t6 q2
  | _ => exact q1.elim
end
/-! ### methods of a list, of a text -/
section
variable (Y : Fix) (CV : Nat → Value) (W : WX)
def OpM (f : EV → EV → Tr → Nat → RE) (r : V → List V → Hp → VK → Prop) : Prop := ∀ (σ : L2.St) (ρ : Pl) (m : Nat) (h : Tr) (H : Hp) (v w : EV) (x : V) (ys : List V) (Q : VK), S Y ρ m h H → R Y ρ m H v x → RL Y ρ m H w ys →
  PostE Y CV W σ ρ m H (f v w h m) (fun ρ' m' _ H' z => ∀ u, R Y ρ' m' H' z u → Q u H') → r x ys H Q
end
noncomputable def eMtL (f : EV → EV → Tr → Nat → RE) (a es : CE) : CE := fun l h m => bindE (a l h m) fun x h m => onRef .bad (fun i => onLst .bad (fun _ => bindE (es l h m) fun xs h m => f x xs h m) (tget h i)) x
section
variable {Y : Fix} {X : Cx} {CV : Nat → Value} {W : WX} {ca a : CE} {es : List Expr} {ea : Expr} {pos p apos cpos : Pos} {x : Str}
theorem de_mtL {name : Str} {id : String} {f : EV → EV → Tr → Nat → RE} {r : V → List V → Hp → VK → Prop} (slot : Slot "list" name id) (hty : typeOf (.builtin id) = pure (.type "method_descriptor")) (hm : MtR X id r) (hf : OpM Y CV W f r)
    (ho : PE X ea (tE Y CV W a)) (ha : PA X es (tA Y CV W ca)) (hb : superE ea = true) (he : es.all plainE = true) (hn : es.length < 29) (hline : (apos.endLine == cpos.line) = true) (h0 : es = [] → ∀ l h m, ca l h m = .ok .nil h m) :
    PE X (.Call (.Attribute ea name apos) es [] cpos) (tE Y CV W (eMtL f a ca)) := by
  have ty : ∀ {ρ : Pl} {H : Hp} {i : Nat} {vs : List V}, H (ρ i) = some (.lst vs) → tyV X.K "list" (.ref (ρ i)) H := fun hv => .inl ⟨rfl, _, SqL.of hv⟩
  cases es with
  | nil =>
    refine pe_mono (pe_bm0 PySem.F.plainAttrs_list slot hty hm ho (base_plain hb) hline) fun σ H Q ⟨l, h, m, ρ, s, lr, q⟩ => ⟨l, h, m, ρ, s, lr, PostE.mono (PostE.bind q) fun g1 m1 h1 H1 v e1 s1 q1 y ry => ?_⟩
    obtain ⟨i, rfl, hi, rfl, q⟩ := onRef_E ry q1
    obtain ⟨xs, vs, _, hv, _, q⟩ := onLst_E s1 hi q
    rw [h0 rfl] at q
    exact ⟨ty hv, hf σ g1 m1 h1 H1 (.ref i) .nil _ [] Q s1 ⟨hi, rfl⟩ RL.nil q⟩
  | cons e es =>
    obtain ⟨he1, he2⟩ := Bool.and_eq_true_iff.mp (show (plainE e && es.all plainE) = true from he)
    refine pe_mono (pe_bm PySem.F.plainAttrs_list slot hty hm ho ha (base_plain hb) (few_plain he hn) hline (star_plain he1) (any_plain he2)) fun σ H Q ⟨l, h, m, ρ, s, lr, q⟩ => ⟨l, h, m, ρ, s, lr, PostE.mono (PostE.bind q) fun g1 m1 h1 H1 v e1 s1 q1 y ry => ?_⟩
    obtain ⟨i, rfl, hi, rfl, q⟩ := onRef_E ry q1
    obtain ⟨xs, vs, _, hv, _, q⟩ := onLst_E s1 hi q
    refine ⟨ty hv, l, h1, m1, g1, s1, lr.mono e1, PostE.mono (PostE.bind q) fun g2 m2 h2 H2 w e2 s2 q2 ys rys => ?_⟩
    exact hf σ g2 m2 h2 H2 (.ref i) w _ ys Q s2 (R.mono e2 (show R Y g1 m1 H1 (.ref i) (.ref (g1 i)) from ⟨hi, rfl⟩)) rys q2
/-- an item more at the end -/
noncomputable def fAppend : EV → EV → Tr → Nat → RE := fun v w h m => onRef .bad (fun i => on1 (fun y => onLst .bad (fun xs => appK (.cons y .nil) xs fun z => lenOk z (putK (.lst z) i .non h m)) (tget h i)) w) v
theorem o_append : OpM Y CV W fAppend rAppend := fun σ ρ m h H v w x ys Q s rx ry p => by
  obtain ⟨i, rfl, hi, rfl, p⟩ := onRef_E rx p
  obtain ⟨a, y, rfl, rfl, ra, p⟩ := on1_E ry p
  obtain ⟨xs, vs, _, hv, rv, p⟩ := onLst_E s hi p
  obtain ⟨z, ez, rz⟩ := appK_RL (α := RE) (RL.cons ra RL.nil) xs vs rv fun z => lenOk z (putK (.lst z) i .non h m)
  rw [ez] at p
  obtain ⟨hl, p⟩ := lenOk_E rz p
  rw [List.length_append] at hl
  obtain ⟨h', k, s'⟩ := putK_of (o := .lst z) (ho := .lst (vs ++ [y])) s hi hv (fun _ _ z => (nomatch z)) ⟨_, upd_same, (RR.upd (s.notT hi) _).2 _ rz⟩ p
  exact ⟨ρ i, vs, y, rfl, rfl, hv, small16 (Nat.le_trans (Nat.le_add_right _ _) hl), k .non rfl⟩
noncomputable def fExtend : EV → EV → Tr → Nat → RE := fun v w h m => onRef .bad (fun i => on1 (fun y => onRef .bad (fun j => onLst .bad (fun xs => onLst .bad (fun ys => appK ys xs fun z => lenOk z (putK (.lst z) i .non h m)) (tget h j)) (tget h i)) y) w) v
theorem o_extend : OpM Y CV W fExtend rExtend := fun σ ρ m h H v w x ys Q s rx ry p => by
  obtain ⟨i, rfl, hi, rfl, p⟩ := onRef_E rx p
  obtain ⟨a, y, rfl, rfl, ra, p⟩ := on1_E ry p
  obtain ⟨j, rfl, hj, rfl, p⟩ := onRef_E ra p
  obtain ⟨xs, vs, _, hv, rv, p⟩ := onLst_E s hi p
  obtain ⟨es, ws, _, hw, rw', p⟩ := onLst_E s hj p
  obtain ⟨z, ez, rz⟩ := appK_RL (α := RE) rw' xs vs rv fun z => lenOk z (putK (.lst z) i .non h m)
  rw [ez] at p
  obtain ⟨hl, p⟩ := lenOk_E rz p
  rw [List.length_append] at hl
  obtain ⟨h', k, s'⟩ := putK_of (o := .lst z) (ho := .lst (vs ++ ws)) s hi hv (fun _ _ z => (nomatch z)) ⟨_, upd_same, (RR.upd (s.notT hi) _).2 _ rz⟩ p
  exact ⟨ρ i, ρ j, vs, ws, rfl, rfl, hv, hw, Nat.le_of_lt (small16 hl), k .non rfl⟩
/-- the last item is taken out -/
noncomputable def fPop : EV → EV → Tr → Nat → RE := fun v w h m => onRef .bad (fun i => onNil .bad (onLst .bad (fun xs => revK xs .nil fun r => onCons .bad (fun x t => revK t .nil fun z => putK (.lst z) i x h m) r) (tget h i)) w) v
theorem o_pop : OpM Y CV W fPop rPop := fun σ ρ m h H v w x ys Q s rx ry p => by
  obtain ⟨i, rfl, hi, rfl, p⟩ := onRef_E rx p
  obtain ⟨rfl, rfl, p⟩ := onNil_E ry p
  obtain ⟨xs, vs, _, hv, rv, p⟩ := onLst_E s hi p
  obtain ⟨r, er, rr⟩ := rev_of (α := RE) rv fun r => onCons .bad (fun x t => revK t .nil fun z => putK (.lst z) i x h m) r
  rw [er] at p
  obtain ⟨a, t, x, vt, rfl, ev, ra, rt, p⟩ := onCons_E rr p
  obtain ⟨z, ez, rz⟩ := rev_of (α := RE) rt fun z => putK (.lst z) i a h m
  rw [ez] at p
  have e1 : vs = vt.reverse ++ [x] := by
    have := congrArg List.reverse ev
    rw [List.reverse_reverse, List.reverse_cons] at this
    exact this
  obtain ⟨h', k, s'⟩ := putK_of (o := .lst z) (ho := .lst vt.reverse) s hi hv (fun _ _ z => (nomatch z)) ⟨_, upd_same, (RR.upd (s.notT hi) _).2 _ rz⟩ p
  refine ⟨ρ i, vs, x, rfl, rfl, hv, ?_, ?_⟩
  · rw [e1]; simp
  · rw [e1, List.dropLast_concat]
    exact k x ((RR.upd (s.notT hi) _).1 _ ra)
end
/-! ### len(set(texts)) -/
section
variable {Y : Fix} {X : Cx} {CV : Nat → Value} {W : WX} {a : CE} {ea : Expr}
noncomputable def memE (x : EV) (acc : EV) : Bool := elist false false (fun y _ ih => orB (eqE y x) ih) acc
noncomputable def dnE (e : EV) : EV → Nat → (Nat → RE) → RE := elist (fun _ _ _ => .bad) (fun _ n k => k n) (fun x _ ih acc n k => onStr .bad (fun s => elist .bad
  (Bool.rec (motive := fun _ => RE) (forceN (Nat.succ n) fun n => ih (.cons s acc) n k) (ih (.cons s acc) n k) (memE s acc)) (fun _ _ _ => Bool.rec (motive := fun _ => RE) (forceN (Nat.succ n) fun n => ih (.cons s acc) n k) (ih (.cons s acc) n k) (memE s acc)) s) x) e
noncomputable def fLenSet : EV → Tr → Nat → RE := fun v h m => onRef .bad (fun i => onLst .bad (fun e => lenK e 0 fun n => Bool.rec (motive := fun _ => RE) .bad (dnE e .nil 0 fun n => .ok (.int (.ofNat n)) h m) (Nat.blt n 4000)) (tget h i)) v
/-- the texts met so far, the last in front -/
inductive Met : EV → List Str → Prop
  | nil : Met .nil []
  | cons {s acc : EV} {l : List Nat} {xs : List Str} : codes s = some l → Met acc xs → Met (.cons s acc) (⟨l.toArray⟩ :: xs)
theorem memE_eq {s : EV} {l : List Nat} (hs : codes s = some l) : ∀ {acc : EV} {xs : List Str}, Met acc xs → memE s acc = xs.any (· == (⟨l.toArray⟩ : Str))
  | _, _, .nil => rfl
  | _, _, .cons (s := t) (l := k) ht r => by
    show orB (eqE t s) (memE s _) = _
    rw [orB_eq, memE_eq hs r, eqE_codes t s k l ht hs, List.any_cons, str_beq]
theorem dnE_of {P : RE → Prop} (hb : ¬ P .bad) {ρ m H} {k : Nat → RE} : ∀ (e : EV) (vs : List V) (acc : EV) (pre : List Str) (n : Nat), RL Y ρ m H e vs → Met acc pre.reverse → n = dn pre pre.length → P (dnE e acc n k) →
    ∃ xs : List Str, vs = xs.map V.str ∧ P (k (dn (pre ++ xs) (pre ++ xs).length))
  | e, [], acc, pre, n, rl, ma, hn, p => by
    cases rl.nil_of
    refine ⟨[], rfl, ?_⟩
    rw [List.append_nil, ← hn]; exact p
  | e, x :: vs, acc, pre, n, rl, ma, hn, p => by
    obtain ⟨v, t, z, rv, rt⟩ := rl.cons_of
    subst z
    obtain ⟨s, l, rfl, hl, rfl, p⟩ := onStr_of hb rv (show P (onStr .bad (fun s => elist .bad
      (Bool.rec (motive := fun _ => RE) (forceN (Nat.succ n) fun n => dnE t (.cons s acc) n k) (dnE t (.cons s acc) n k) (memE s acc)) (fun _ _ _ => Bool.rec (motive := fun _ => RE) (forceN (Nat.succ n) fun n => dnE t (.cons s acc) n k) (dnE t (.cons s acc) n k) (memE s acc)) s) v) from p)
    obtain ⟨cl, p⟩ := plain_str hb hl p
    rw [forceN_eq, memE_eq cl ma] at p
    have hr : pre.reverse.any (· == (⟨l.toArray⟩ : Str)) = pre.any (· == (⟨l.toArray⟩ : Str)) := List.any_reverse
    rw [hr] at p
    have same : ∀ (ys : List Str) (i : Nat), i ≤ pre.length → dn (pre ++ ys) i = dn pre i := fun ys i => by
      induction i with
      | zero => intro _; rfl
      | succ i ih =>
        intro hi
        have e1 : (pre ++ ys).take i = pre.take i := List.take_append_of_le_length (by omega)
        have e2 : (pre ++ ys).getD i Str.empty = pre.getD i Str.empty := by
          rw [List.getD_eq_getElem?_getD, List.getD_eq_getElem?_getD, List.getElem?_append_left (by omega)]
        show (if ((pre ++ ys).take i).any (· == (pre ++ ys).getD i Str.empty) = true then dn (pre ++ ys) i else dn (pre ++ ys) i + 1) = if (pre.take i).any (· == pre.getD i Str.empty) = true then dn pre i else dn pre i + 1
        rw [e1, e2, ih (by omega)]
    have step : dn (pre ++ [⟨l.toArray⟩]) (pre ++ [(⟨l.toArray⟩ : Str)]).length = if pre.any (· == (⟨l.toArray⟩ : Str)) = true then n else n + 1 := by
      rw [List.length_append]
      show (if ((pre ++ [(⟨l.toArray⟩ : Str)]).take pre.length).any (· == (pre ++ [(⟨l.toArray⟩ : Str)]).getD pre.length Str.empty) = true then dn (pre ++ [⟨l.toArray⟩]) pre.length else dn (pre ++ [⟨l.toArray⟩]) pre.length + 1) = _
      rw [same _ _ (Nat.le_refl _), ← hn, List.take_left', List.getD_eq_getElem?_getD, List.getElem?_append_right (Nat.le_refl _), Nat.sub_self]
      · rfl
      · rfl
    have ma' : Met (.cons s acc) (pre ++ [(⟨l.toArray⟩ : Str)]).reverse := by
      rw [List.reverse_append]
      exact .cons cl ma
    have go : ∀ n', n' = dn (pre ++ [⟨l.toArray⟩]) (pre ++ [(⟨l.toArray⟩ : Str)]).length → P (dnE t (.cons s acc) n' k) → ∃ xs : List Str, V.str ⟨l.toArray⟩ :: vs = xs.map V.str ∧ P (k (dn (pre ++ xs) (pre ++ xs).length)) := fun n' hn' p => by
      obtain ⟨xs, rfl, q⟩ := dnE_of hb t vs (.cons s acc) (pre ++ [⟨l.toArray⟩]) n' rt ma' hn' p
      refine ⟨⟨l.toArray⟩ :: xs, rfl, ?_⟩
      rw [List.append_assoc] at q
      exact q
    cases z : pre.any (· == (⟨l.toArray⟩ : Str)) with
    | true =>
      rw [z] at p step
      exact go n (by rw [step]; rfl) p
    | false =>
      rw [z] at p step
      exact go (n + 1) (by rw [step]; rfl) p
theorem tLenSet_of {Kf : PySem.W.Frag} {σ : L2.St} {H : Hp} {Q : VK} (t : tE Y CV W (eUn fLenSet a) σ H Q) : tLenSet Kf (tE Y CV W a) σ H Q := by
  obtain ⟨l, h, m, ρ, s, lr, p⟩ := t
  refine ⟨l, h, m, ρ, s, lr, PostE.mono (PostE.bind p) fun g1 m1 h1 H1 v e1 s1 p1 x rx => ?_⟩
  obtain ⟨i, rfl, hi, rfl, p⟩ := onRef_E rx p1
  obtain ⟨e, vs, _, hv, rv, p⟩ := onLst_E s1 hi p
  rw [lenK_RL e vs rv, Nat.zero_add] at p
  obtain ⟨b, p2⟩ := bok_E p
  obtain ⟨xs, rfl, p3⟩ := dnE_of (P := fun r => PostE Y CV W σ g1 m1 H1 r fun ρ' m' _ H' v => ∀ x, R Y ρ' m' H' v x → Q x H') (fun z => z) e vs .nil [] 0 rv .nil rfl p2
  refine ⟨g1 i, xs, rfl, SqL.of hv, ?_, post_ok s1 p3 _ rfl⟩
  have := Nat.blt_eq.mp b
  rwa [List.length_map] at this
end
end Dz

namespace Dz
open PySem L2 PySem.W
/-! ### the order of data: rules -/
/-- a comparison of alike data -/
def rCmpD (K : PySem.W.Frag) (c : PyData → PyData → Bool) : R2 := fun x y H Q => ∃ d e, Dp K H x d ∧ Dp K H y e ∧ alike d e = true ∧ d ≠ .none ∧ d.depth ≤ 64 ∧ Q (.bl (c d e)) H
section
variable {X : Cx}
theorem op_ltD (hu : X.A.units + 64 < cLine) : OpR X (compareOp .Lt) (rCmpD X.K fun d e => dataLt d e) := by
  intro pins s σ H x y v u Q I rx ry ⟨d, e, hd, he, ha, hn, hde, q⟩
  obtain ⟨as, r1⟩ := Dp.reads I d x v hd rx
  obtain ⟨bs, r2⟩ := Dp.reads I e y u he ry
  exact lt_data r1 r2 ha hn (by omega) ⟨.bl _, H, I, rfl, q⟩
theorem op_gtD (hu : X.A.units + 64 < cLine) : OpR X (compareOp .Gt) (rCmpD X.K fun d e => dataLt e d) := by
  intro pins s σ H x y v u Q I rx ry ⟨d, e, hd, he, ha, hn, hde, q⟩
  obtain ⟨as, r1⟩ := Dp.reads I d x v hd rx
  obtain ⟨bs, r2⟩ := Dp.reads I e y u he ry
  exact gt_data r1 r2 ha hn (by omega) ⟨.bl _, H, I, rfl, q⟩
theorem op_leD (hu : X.A.units + 64 < cLine) : OpR X (compareOp .LtE) (rCmpD X.K fun d e => !dataLt e d) := by
  intro pins s σ H x y v u Q I rx ry ⟨d, e, hd, he, ha, hn, hde, q⟩
  obtain ⟨as, r1⟩ := Dp.reads I d x v hd rx
  obtain ⟨bs, r2⟩ := Dp.reads I e y u he ry
  exact le_data r1 r2 ha hn (by omega) ⟨.bl _, H, I, rfl, q⟩
theorem op_geD (hu : X.A.units + 64 < cLine) : OpR X (compareOp .GtE) (rCmpD X.K fun d e => !dataLt d e) := by
  intro pins s σ H x y v u Q I rx ry ⟨d, e, hd, he, ha, hn, hde, q⟩
  obtain ⟨as, r1⟩ := Dp.reads I d x v hd rx
  obtain ⟨bs, r2⟩ := Dp.reads I e y u he ry
  exact ge_data r1 r2 ha hn (by omega) ⟨.bl _, H, I, rfl, q⟩
/-- sorted(xs), xs a list of alike data -/
def rSortedD (K : PySem.W.Frag) : List V → Hp → VK → Prop := fun vs H Q => ∃ (a : Addr) (zs : List (V × PyData)), vs = [V.ref a] ∧ SqL K H a (zs.map (·.1)) ∧ (∀ z ∈ zs, Dp K H z.1 z.2) ∧ AllAlike (zs.map (·.2)) ∧ Sortable (zs.map (·.2)) ∧ (∀ z ∈ zs, z.2.depth ≤ 60) ∧
  ∀ p, H p = none → Q (.ref p) (upd H p (.lst ((zs.mergeSort (dataLe false (·.2))).map (·.1))))
theorem eachIs_vals {zs : List (V × PyData)} {us : List Value} (r : Vals (zs.map (·.1)) us) : EachIs (fun v z => RelV z.1 v) us zs := by
  induction zs generalizing us with
  | nil => cases r; exact .nil
  | cons z zs ih =>
    cases r with
    | cons r rs => exact .cons r (ih rs)
theorem vals_eachIs {zs : List (V × PyData)} {us : List Value} (r : EachIs (fun v z => RelV z.1 v) us zs) : Vals (zs.map (·.1)) us := by
  induction zs generalizing us with
  | nil => cases r; exact .nil
  | cons z zs ih =>
    cases r with
    | cons r rs => exact .cons r (ih rs)
theorem cr_sortedD (hu : X.A.units + 64 < cLine) : CallR X (.builtin "sorted") (rSortedD X.K) := by
  intro pins s σ H vs us Q I r h
  obtain ⟨a, zs, rfl, hs, hd, hal, hso, hde, q⟩ := h
  obtain ⟨its, rv, hl, hz⟩ := I.list hs
  rw [Vals.ref1 r]
  have e := eachIs_vals rv
  have hlen : zs.length ≤ sizeLine := by rw [List.length_map] at hz; exact hz
  refine sorted_data (R := fun v z => RelV z.1 v) (enc := (·.2)) (bs := zs) hl.isList e ?_ hal hso hlen (fun b hb => by have := hde b hb; omega) fun out ho er => ?_
  · have : ∀ {us : List Value} {ws : List (V × PyData)}, (∀ z ∈ ws, Dp X.K H z.1 z.2) → EachIs (fun v z => RelV z.1 v) us ws → EachIs (fun v z => ∃ as, Reads s.heap v z.2 as) us ws := fun {us ws} hw e => by
      induction e with
      | nil => exact .nil
      | cons r _ ih => exact .cons (Dp.reads I _ _ _ (hw _ List.mem_cons_self) r) (ih fun z hz => hw z (List.mem_cons_of_mem _ hz))
    exact this hd e
  · obtain ⟨ep, he'⟩ := PyProof.Rows.sortedAll_at s.heap its out.toArray
    have hlm : ((zs.mergeSort (dataLe false (·.2))).map (·.1)).length ≤ sizeLine := by rw [List.length_map, List.length_mergeSort]; exact hlen
    exact ⟨.ref _, upd H (s.heap.objs.size + 1) (.lst ((zs.mergeSort (dataLe false (·.2))).map (·.1))), I.laid (t' := s.toks) (fun _ _ => PyProof.Rows.sortedAll_old) (Nat.le_succ _) ⟨hlm, out, ep, vals_eachIs er, he'⟩, rfl, q _ (I.hok.fresh (Nat.le_succ _))⟩
end
/-! ### the order of data, reckoned -/
inductive C4 where | lt | eq | gt | bad
noncomputable def c4 {α : Type} (a b c d : α) (x : C4) : α := C4.rec (motive := fun _ => α) a b c d x
noncomputable def cmpN (a b : Nat) : C4 := Bool.rec (motive := fun _ => C4) (Bool.rec (motive := fun _ => C4) .gt .eq (Nat.beq a b)) .lt (Nat.blt a b)
noncomputable def cmpI (i j : Int) : C4 := Bool.rec (motive := fun _ => C4) (Bool.rec (motive := fun _ => C4) .gt .eq (eqI i j)) .lt (ltI i j)
noncomputable def comb (a b : C4) : C4 := c4 (c4 .lt .lt .lt .bad b) b (c4 .gt .gt .gt .bad b) .bad a
noncomputable def cE (x : EV) : EV → C4 := EV.rec (motive := fun _ => EV → C4)
  (evc .bad .eq (fun _ => .bad) (fun _ => .bad) (fun _ => .bad) .bad (fun _ _ => .bad) (fun _ => .bad) (fun _ => .bad) (fun _ => .bad))
  (fun a => evc .bad .bad (fun b => cmpI (b2i' a) (b2i' b)) (fun _ => .bad) (fun _ => .bad) .bad (fun _ _ => .bad) (fun _ => .bad) (fun _ => .bad) (fun _ => .bad))
  (fun i => evc .bad .bad (fun _ => .bad) (fun j => cmpI i j) (fun _ => .bad) .bad (fun _ _ => .bad) (fun _ => .bad) (fun _ => .bad) (fun _ => .bad))
  (fun _ ih => evc .bad .bad (fun _ => .bad) (fun _ => .bad) ih .bad (fun _ _ => .bad) (fun _ => .bad) (fun _ => .bad) (fun _ => .bad))
  (evc .bad .bad (fun _ => .bad) (fun _ => .bad) (fun _ => .bad) .eq (fun _ _ => .lt) (fun _ => .bad) (fun _ => .bad) (fun _ => .bad))
  (fun _ _ i1 i2 => evc .bad .bad (fun _ => .bad) (fun _ => .bad) (fun _ => .bad) .gt (fun b bs => comb (i1 b) (i2 bs)) (fun _ => .bad) (fun _ => .bad) (fun _ => .bad))
  (fun _ ih => evc .bad .bad (fun _ => .bad) (fun _ => .bad) (fun _ => .bad) .bad (fun _ _ => .bad) ih (fun _ => .bad) (fun _ => .bad))
  (fun _ ih => evc .bad .bad (fun _ => .bad) (fun _ => .bad) (fun _ => .bad) .bad (fun _ _ => .bad) (fun _ => .bad) ih (fun _ => .bad))
  (fun _ _ => .bad)
  (fun a => evc .bad .bad (fun _ => .bad) (fun _ => .bad) (fun _ => .bad) .bad (fun _ _ => .bad) (fun _ => .bad) (fun _ => .bad) (fun b => cmpN a b))
  (fun _ _ => .bad) x
theorem cmpN_eq (a b : Nat) : cmpN a b = if a < b then .lt else if a = b then .eq else .gt := by
  unfold cmpN
  cases h : Nat.blt a b with
  | true => rw [if_pos (Nat.blt_eq.mp h)]
  | false =>
    have h' : ¬ a < b := fun z => by rw [Nat.blt_eq.mpr z] at h; cases h
    rw [if_neg h']
    cases h2 : Nat.beq a b with
    | true => rw [if_pos (Nat.beq_eq.mp h2)]
    | false => rw [if_neg (fun z => by rw [Nat.beq_eq.mpr z] at h2; cases h2)]
theorem cmpI_eq (i j : Int) : cmpI i j = if i < j then .lt else if i = j then .eq else .gt := by
  unfold cmpI
  rw [ltI_eq, eqI_eq]
  by_cases h : i < j
  · rw [decide_eq_true h, if_pos h]
  · rw [decide_eq_false h, if_neg h]
    by_cases h2 : i = j
    · rw [if_pos h2, h2, beq_self_eq_true]
    · rw [if_neg h2, beq_eq_false_iff_ne.mpr h2]
/-- what the answer says of two -/
def Says (c : C4) (a e l g : Bool) : Prop := match c with
  | .lt => a = true ∧ e = false ∧ l = true ∧ g = false
  | .eq => a = true ∧ e = true ∧ l = false ∧ g = false
  | .gt => a = true ∧ e = false ∧ l = false ∧ g = true
  | .bad => True
theorem says_int (i j : Int) : Says (cmpI i j) true (i == j) (decide (i < j)) (decide (j < i)) := by
  rw [cmpI_eq]
  by_cases h : i < j
  · rw [if_pos h]
    exact ⟨rfl, beq_eq_false_iff_ne.mpr (by omega), decide_eq_true h, decide_eq_false (by omega)⟩
  · rw [if_neg h]
    by_cases h2 : i = j
    · rw [if_pos h2, h2]
      exact ⟨rfl, beq_self_eq_true _, decide_eq_false (by omega), decide_eq_false (by omega)⟩
    · rw [if_neg h2]
      exact ⟨rfl, beq_eq_false_iff_ne.mpr h2, decide_eq_false h, decide_eq_true (by omega)⟩
theorem says_codes : ∀ (x y : EV) (l k : List Nat), codes x = some l → codes y = some k → Says (cE x y) true (decide (l = k)) (decide (l < k)) (decide (k < l))
  | .nil, y, l, k, e1, e2 => by
    cases (show some [] = some l from e1)
    cases y with
    | nil => cases (show some [] = some k from e2); exact ⟨rfl, rfl, rfl, rfl⟩
    | cons c t =>
      obtain ⟨c, rfl⟩ := codes_no e2
      obtain ⟨r, rfl, _, _⟩ := codes_cons e2
      exact ⟨rfl, rfl, by simp, by simp⟩
    | _ => (cases e2)
  | .cons a t, y, l, k, e1, e2 => by
    obtain ⟨a, rfl⟩ := codes_no e1
    obtain ⟨l1, rfl, q1, _⟩ := codes_cons e1
    cases y with
    | nil =>
      cases (show some [] = some k from e2)
      exact ⟨rfl, rfl, by simp, by simp⟩
    | cons c u =>
      obtain ⟨c, rfl⟩ := codes_no e2
      obtain ⟨r, rfl, q, _⟩ := codes_cons e2
      have ih := says_codes t u l1 r q1 q
      show Says (comb (cmpN a c) (cE t u)) _ _ _ _
      rw [cmpN_eq]
      by_cases h : a < c
      · rw [if_pos h]
        cases z : cE t u with
        | bad => exact trivial
        | _ => exact ⟨rfl, decide_eq_false (fun w => by injection w; omega), decide_eq_true (List.cons_lt_cons_iff.mpr (.inl h)), decide_eq_false (fun w => by rcases List.cons_lt_cons_iff.mp w with w | w <;> omega)⟩
      · rw [if_neg h]
        by_cases h2 : a = c
        · subst h2
          rw [if_pos rfl]
          show Says (cE t u) _ _ _ _
          have e3 : decide (a :: l1 = a :: r) = decide (l1 = r) := by
            rw [decide_eq_decide]; constructor
            · intro z; injection z
            · intro z; rw [z]
          have e4 : ∀ p q : List Nat, decide (a :: p < a :: q) = decide (p < q) := fun p q => by
            rw [decide_eq_decide, List.cons_lt_cons_iff]; constructor
            · intro z; rcases z with z | z
              · omega
              · exact z.2
            · intro z; exact .inr ⟨rfl, z⟩
          rw [e3, e4, e4]
          exact ih
        · rw [if_neg h2]
          cases z : cE t u with
          | bad => exact trivial
          | _ => exact ⟨rfl, decide_eq_false (fun w => by injection w; omega), decide_eq_false (fun w => by rcases List.cons_lt_cons_iff.mp w with w | w <;> omega), decide_eq_true (List.cons_lt_cons_iff.mpr (.inl (by omega)))⟩
    | _ => (cases e2)
  | .non, _, _, _, e1, _ => by cases e1
  | .bl _, _, _, _, e1, _ => by cases e1
  | .int _, _, _, _, e1, _ => by cases e1
  | .str _, _, _, _, e1, _ => by cases e1
  | .tup _, _, _, _, e1, _ => by cases e1
  | .lst _, _, _, _, e1, _ => by cases e1
  | .ref _, _, _, _, e1, _ => by cases e1
  | .ch _, _, _, _, e1, _ => by cases e1
  | .cst _, _, _, _, e1, _ => by cases e1
theorem says_data : ∀ x : EV, (∀ y d e, (Dt x).1 = some d → (Dt y).1 = some e → Says (cE x y) (alike d e) (PyData.eqv d e) (dataLt d e) (dataLt e d)) ∧
    (∀ y ds es, (Dt x).2 = some ds → (Dt y).2 = some es → Says (cE x y) (alikeAll ds es) (PyData.eqvAll ds es) (rowLt ds es) (rowLt es ds))
  | .non => ⟨fun y d e h1 h2 => by
    cases h1
    cases y with
    | non => cases h2; exact ⟨rfl, rfl, rfl, rfl⟩
    | _ => exact trivial, fun _ _ _ h => (nomatch h)⟩
  | .bl b => ⟨fun y d e h1 h2 => by
    cases h1
    cases y with
    | bl c => cases h2; cases b <;> cases c <;> exact ⟨rfl, rfl, rfl, rfl⟩
    | _ => exact trivial, fun _ _ _ h => (nomatch h)⟩
  | .int i => ⟨fun y d e h1 h2 => by
    cases h1
    cases y with
    | int j =>
      cases h2
      have h := says_int i j
      rw [dataLt_int, dataLt_int]
      simpa [PyData.eqv, alike, cE, evc] using h
    | _ => exact trivial, fun _ _ _ h => (nomatch h)⟩
  | .str s => ⟨fun y d e h1 h2 => by
    obtain ⟨l, hl, rfl⟩ := Dt_str h1
    cases y with
    | str t =>
      obtain ⟨k, hk, rfl⟩ := Dt_str h2
      have h := says_codes s t l k hl hk
      rw [dataLt_str, dataLt_str, PyData.eqv, str_beq]
      simpa [alike, cE, evc] using h
    | _ => exact trivial, fun _ _ _ h => (nomatch h)⟩
  | .nil => ⟨fun _ _ _ h => (nomatch h), fun y ds es h1 h2 => by
    cases h1
    cases y with
    | nil => cases h2; exact ⟨rfl, rfl, rfl, rfl⟩
    | cons => obtain ⟨_, _, rfl, _⟩ := Dt_cons h2; exact ⟨rfl, rfl, rfl, rfl⟩
    | _ => (cases h2)⟩
  | .cons a t => ⟨fun _ _ _ h => (nomatch h), fun y ds es h1 h2 => by
    obtain ⟨d, r, rfl, q1, q2⟩ := Dt_cons h1
    cases y with
    | nil => cases h2; exact ⟨rfl, rfl, rfl, rfl⟩
    | cons b u =>
      obtain ⟨e, r', rfl, p1, p2⟩ := Dt_cons h2
      have h1 := (says_data a).1 b d e q1 p1
      have h2 := (says_data t).2 u r r' q2 p2
      show Says (comb (cE a b) (cE t u)) _ _ _ _
      have fin : ∀ c1 c2, cE a b = c1 → cE t u = c2 → Says (comb c1 c2) (alikeAll (d :: r) (e :: r')) (PyData.eqvAll (d :: r) (e :: r')) (rowLt (d :: r) (e :: r')) (rowLt (e :: r') (d :: r)) := fun c1 c2 z1 z2 => by
        rw [z1] at h1
        rw [z2] at h2
        have go : alike d e = true → alikeAll r r' = true → ∀ l g l' g' q q', dataLt d e = l → dataLt e d = g → rowLt r r' = l' → rowLt r' r = g' → PyData.eqv d e = q → PyData.eqvAll r r' = q' →
            alikeAll (d :: r) (e :: r') = true ∧ PyData.eqvAll (d :: r) (e :: r') = (q && q') ∧ rowLt (d :: r) (e :: r') = (if q = true then l' else l) ∧ rowLt (e :: r') (d :: r) = (if q = true then g' else g) := fun ha hr l g l' g' q q' e1 e2 e3 e4 e5 e6 => by
          refine ⟨by rw [alikeAll, ha, hr]; rfl, by rw [eqv_all_cons, e5, e6], ?_, ?_⟩
          · show PyProof.Rows.lexLt PyProof.Rows.itemOrd (keyToksAll (d :: r)) (keyToksAll (e :: r')) = _
            rw [dataLt_cons ha, e5, e1, ← e3]; rfl
          · show PyProof.Rows.lexLt PyProof.Rows.itemOrd (keyToksAll (e :: r')) (keyToksAll (d :: r)) = _
            rw [dataLt_cons (by rw [alike_comm]; exact ha), eqv_comm, e5, e2, ← e4]; rfl
        cases c1 with
        | bad => exact trivial
        | lt =>
          cases c2 with
          | bad => exact trivial
          | _ =>
            obtain ⟨a1, a2, a3, a4⟩ := h1
            obtain ⟨b1, b2, b3, b4⟩ := h2
            obtain ⟨g1, g2, g3, g4⟩ := go a1 b1 _ _ _ _ _ _ a3 a4 b3 b4 a2 b2
            exact ⟨g1, g2, g3, g4⟩
        | eq =>
          cases c2 with
          | bad => exact trivial
          | _ =>
            obtain ⟨a1, a2, a3, a4⟩ := h1
            obtain ⟨b1, b2, b3, b4⟩ := h2
            obtain ⟨g1, g2, g3, g4⟩ := go a1 b1 _ _ _ _ _ _ a3 a4 b3 b4 a2 b2
            exact ⟨g1, g2, g3, g4⟩
        | gt =>
          cases c2 with
          | bad => exact trivial
          | _ =>
            obtain ⟨a1, a2, a3, a4⟩ := h1
            obtain ⟨b1, b2, b3, b4⟩ := h2
            obtain ⟨g1, g2, g3, g4⟩ := go a1 b1 _ _ _ _ _ _ a3 a4 b3 b4 a2 b2
            exact ⟨g1, g2, g3, g4⟩
      exact fin _ _ rfl rfl
    | _ => (cases h2)⟩
  | .tup s => ⟨fun y d e h1 h2 => by
    obtain ⟨l, hl, rfl⟩ := Dt_tup h1
    cases y with
    | tup t =>
      obtain ⟨k, hk, rfl⟩ := Dt_tup h2
      have h := (says_data s).2 t l k hl hk
      rw [dataLt_tuple, dataLt_tuple, PyData.eqv, alike]
      exact h
    | _ => exact trivial, fun _ _ _ h => (nomatch h)⟩
  | .lst s => ⟨fun y d e h1 h2 => by
    obtain ⟨l, hl, rfl⟩ := Dt_lst h1
    cases y with
    | lst t =>
      obtain ⟨k, hk, rfl⟩ := Dt_lst h2
      have h := (says_data s).2 t l k hl hk
      rw [dataLt_list, dataLt_list, PyData.eqv, alike]
      exact h
    | _ => exact trivial, fun _ _ _ h => (nomatch h)⟩
  | .ref _ => ⟨fun _ _ _ h => (nomatch h), fun _ _ _ h => (nomatch h)⟩
  | .ch _ => ⟨fun _ _ _ h => (nomatch h), fun _ _ _ h => (nomatch h)⟩
  | .cst _ => ⟨fun _ _ _ h => (nomatch h), fun _ _ _ h => (nomatch h)⟩
end Dz

namespace Dz
open PySem L2 PySem.W
theorem cE_eq : ∀ x y : EV, cE x y = .eq → x = y
  | .non, y, h => by cases y <;> first | rfl | cases h
  | .bl a, y, h => by
    cases y with
    | bl b => cases a <;> cases b <;> first | rfl | cases h
    | _ => (cases h)
  | .int i, y, h => by
    cases y with
    | int j =>
      have h' : cmpI i j = .eq := h
      rw [cmpI_eq] at h'
      split at h'
      · cases h'
      · split at h'
        · rename_i e; rw [e]
        · cases h'
    | _ => (cases h)
  | .str s, y, h => by
    cases y with
    | str t => rw [cE_eq s t h]
    | _ => (cases h)
  | .nil, y, h => by cases y <;> first | rfl | cases h
  | .cons a t, y, h => by
    cases y with
    | cons b u =>
      have h' : comb (cE a b) (cE t u) = .eq := h
      have : ∀ c1 c2, cE a b = c1 → cE t u = c2 → comb c1 c2 = .eq → cE a b = .eq ∧ cE t u = .eq := fun c1 c2 e1 e2 z => by
        cases c1 <;> cases c2 <;> first | exact ⟨e1, e2⟩ | cases z
      obtain ⟨z1, z2⟩ := this _ _ rfl rfl h'
      rw [cE_eq a b z1, cE_eq t u z2]
    | _ => (cases h)
  | .tup s, y, h => by
    cases y with
    | tup t => rw [cE_eq s t h]
    | _ => (cases h)
  | .lst s, y, h => by
    cases y with
    | lst t => rw [cE_eq s t h]
    | _ => (cases h)
  | .ref _, _, h => nomatch h
  | .ch a, y, h => by
    cases y with
    | ch b =>
      have h' : cmpN a b = .eq := h
      rw [cmpN_eq] at h'
      split at h'
      · cases h'
      · split at h'
        · rename_i e; rw [e]
        · cases h'
    | _ => (cases h)
  | .cst _, _, h => nomatch h
/-! ### <, <=, >, >= -/
noncomputable def notN {α : Type} (d k : α) (v : EV) : α := EV.rec (motive := fun _ => α) d (fun _ => k) (fun _ => k) (fun _ _ => k) k (fun _ _ _ _ => k) (fun _ _ => k) (fun _ _ => k) (fun _ => k) (fun _ => k) (fun _ => k) v
noncomputable def fCmp (q : C4 → RE → RE → RE) (f : Int → Int → Bool) : EV → EV → Tr → Nat → RE := fun v w h m => onInt (notN .bad (fz 5 h v 60 fun v => fz 5 h w 60 fun w => q (cE v w) (.ok (.bl true) h m) (.ok (.bl false) h m)) v) (fun i => onInt .bad (fun j => okB (f i j) h m) w) v
noncomputable def qLt (c : C4) (a b : RE) : RE := c4 a b b .bad c
noncomputable def qLe (c : C4) (a b : RE) : RE := c4 a a b .bad c
noncomputable def qGt (c : C4) (a b : RE) : RE := c4 b b a .bad c
noncomputable def qGe (c : C4) (a b : RE) : RE := c4 b a a .bad c
def rCmpE (K : PySem.W.Frag) (f : Int → Int → Bool) (c : PyData → PyData → Bool) : R2 := fun x y H Q => rI0 (fun i j => .bl (f i j)) x y H Q ∨ rCmpD K c x y H Q
section
variable {Y : Fix} {X : Cx} {CV : Nat → Value} {W : WX}
theorem op_ltE (hu : X.A.units + 64 < cLine) : OpR X (compareOp .Lt) (rCmpE X.K (fun i j => decide (i < j)) fun d e => dataLt d e) := OpR2.or op_lt (op_ltD hu)
theorem op_leE (hu : X.A.units + 64 < cLine) : OpR X (compareOp .LtE) (rCmpE X.K (fun i j => decide (i ≤ j)) fun d e => !dataLt e d) := OpR2.or op_le (op_leD hu)
theorem op_gtE (hu : X.A.units + 64 < cLine) : OpR X (compareOp .Gt) (rCmpE X.K (fun i j => decide (j < i)) fun d e => dataLt e d) := OpR2.or op_gt (op_gtD hu)
theorem op_geE (hu : X.A.units + 64 < cLine) : OpR X (compareOp .GtE) (rCmpE X.K (fun i j => decide (j ≤ i)) fun d e => !dataLt d e) := OpR2.or op_ge (op_geD hu)
theorem o_cmp {Kf : PySem.W.Frag} {q : C4 → RE → RE → RE} {f f' : Int → Int → Bool} {c : PyData → PyData → Bool} (hf : ∀ i j, f i j = f' i j) (hq : ∀ (P : RE → Prop), ¬ P .bad → ∀ (k : C4) (d e : PyData) (h : Tr) (m : Nat), Says k (alike d e) (PyData.eqv d e) (dataLt d e) (dataLt e d) → P (q k (.ok (.bl true) h m) (.ok (.bl false) h m)) → alike d e = true ∧ P (.ok (.bl (c d e)) h m)) :
    Op2 Y CV W (fCmp q f) (rCmpE Kf f' c) := fun σ ρ m h H v w x y Q s rx ry p => by
  have slow : v ≠ .non → PostE Y CV W σ ρ m H (fz 5 h v 60 fun v => fz 5 h w 60 fun w => q (cE v w) (.ok (.bl true) h m) (.ok (.bl false) h m)) (fun ρ' m' _ H' z => ∀ u, R Y ρ' m' H' z u → Q u H') → rCmpD Kf c x y H Q := fun hv p => by
    obtain ⟨v', d, p, d1, d2, d3, d4⟩ := fz_data (Kf := Kf) s rx p (by omega)
    obtain ⟨w', e, p, e1, e2, e3, _⟩ := fz_data (Kf := Kf) s ry p (by omega)
    obtain ⟨ha, p⟩ := hq (fun r => PostE Y CV W σ ρ m H r fun ρ' m' _ H' z => ∀ u, R Y ρ' m' H' z u → Q u H') (fun z => z) (cE v' w') d e h m ((says_data v').1 w' d e d1 e1) p
    refine ⟨d, e, d2, e2, ha, fun z => ?_, by omega, post_ok s p _ rfl⟩
    subst z
    cases d2
    cases v with
    | non => exact hv rfl
    | bl => exact nomatch rx
    | int => exact nomatch rx
    | str => obtain ⟨_, _, z⟩ := rx; exact nomatch z
    | tup => obtain ⟨_, _, z, _⟩ := rx; exact nomatch z
    | ref => obtain ⟨_, z⟩ := rx; exact nomatch z
    | cst => exact (show False from p).elim
    | _ => exact rx.elim
  cases v with
  | int i =>
    obtain ⟨j, rfl, rfl, p⟩ := onInt_E ry (show PostE Y CV W σ ρ m H (onInt .bad (fun j => okB (f i j) h m) w) _ from p)
    rw [okB_eq, hf] at p
    exact .inl ⟨i, j, rx, rfl, post_ok s p _ rfl⟩
  | non => exact p.elim
  | _ => exact .inr (slow (fun z => nomatch z) p)
end
end Dz

namespace Dz
open PySem L2 PySem.W
section
variable {Y : Fix} {X : Cx} {CV : Nat → Value} {W : WX}
noncomputable def leI (i j : Int) : Bool := notB (ltI j i)
theorem leI_eq (i j : Int) : leI i j = decide (i ≤ j) := by
  unfold leI
  rw [notB_eq, ltI_eq]
  by_cases h : j < i
  · rw [decide_eq_true h, decide_eq_false (by omega)]; rfl
  · rw [decide_eq_false h, decide_eq_true (by omega)]; rfl
noncomputable def fLt : EV → EV → Tr → Nat → RE := fCmp qLt ltI
noncomputable def fLe : EV → EV → Tr → Nat → RE := fCmp qLe leI
noncomputable def fGt : EV → EV → Tr → Nat → RE := fCmp qGt fun i j => ltI j i
noncomputable def fGe : EV → EV → Tr → Nat → RE := fCmp qGe fun i j => leI j i
theorem o_lt {Kf : PySem.W.Frag} : Op2 Y CV W fLt (rCmpE Kf (fun i j => decide (i < j)) fun d e => dataLt d e) := o_cmp ltI_eq fun P hb k d e h m sy p => by
  cases k with
  | lt => exact ⟨sy.1, by rw [sy.2.2.1]; exact p⟩
  | eq => exact ⟨sy.1, by rw [sy.2.2.1]; exact p⟩
  | gt => exact ⟨sy.1, by rw [sy.2.2.1]; exact p⟩
  | bad => exact absurd p hb
theorem o_le {Kf : PySem.W.Frag} : Op2 Y CV W fLe (rCmpE Kf (fun i j => decide (i ≤ j)) fun d e => !dataLt e d) := o_cmp leI_eq fun P hb k d e h m sy p => by
  cases k with
  | lt => exact ⟨sy.1, by rw [sy.2.2.2]; exact p⟩
  | eq => exact ⟨sy.1, by rw [sy.2.2.2]; exact p⟩
  | gt => exact ⟨sy.1, by rw [sy.2.2.2]; exact p⟩
  | bad => exact absurd p hb
theorem o_gt {Kf : PySem.W.Frag} : Op2 Y CV W fGt (rCmpE Kf (fun i j => decide (j < i)) fun d e => dataLt e d) := o_cmp (fun i j => ltI_eq j i) fun P hb k d e h m sy p => by
  cases k with
  | lt => exact ⟨sy.1, by rw [sy.2.2.2]; exact p⟩
  | eq => exact ⟨sy.1, by rw [sy.2.2.2]; exact p⟩
  | gt => exact ⟨sy.1, by rw [sy.2.2.2]; exact p⟩
  | bad => exact absurd p hb
theorem o_ge {Kf : PySem.W.Frag} : Op2 Y CV W fGe (rCmpE Kf (fun i j => decide (j ≤ i)) fun d e => !dataLt d e) := o_cmp (fun i j => leI_eq j i) fun P hb k d e h m sy p => by
  cases k with
  | lt => exact ⟨sy.1, by rw [sy.2.2.1]; exact p⟩
  | eq => exact ⟨sy.1, by rw [sy.2.2.1]; exact p⟩
  | gt => exact ⟨sy.1, by rw [sy.2.2.1]; exact p⟩
  | bad => exact absurd p hb
end
/-! ### alike all: one shape for all -/
noncomputable def mrgK {α : Type} (x : EV) : EV → (EV → α) → α := EV.rec (motive := fun _ => EV → (EV → α) → α) (fun _ k => k .non) (fun b _ k => k (.bl b)) (fun i _ k => k (.int i)) (fun s _ _ k => k (.str s)) (fun y k => k y)
  (fun a as i1 i2 y k => evc (k (.cons a as)) (k (.cons a as)) (fun _ => k (.cons a as)) (fun _ => k (.cons a as)) (fun _ => k (.cons a as)) (k (.cons a as)) (fun b bs => i1 b fun z => i2 bs fun zs => k (.cons z zs)) (fun _ => k (.cons a as)) (fun _ => k (.cons a as)) (fun _ => k (.cons a as)) y)
  (fun xs ih y k => evc (k (.tup xs)) (k (.tup xs)) (fun _ => k (.tup xs)) (fun _ => k (.tup xs)) (fun _ => k (.tup xs)) (k (.tup xs)) (fun _ _ => k (.tup xs)) (fun ys => ih ys fun z => k (.tup z)) (fun _ => k (.tup xs)) (fun _ => k (.tup xs)) y)
  (fun xs _ _ k => k (.lst xs)) (fun a _ k => k (.ref a)) (fun c _ k => k (.ch c)) (fun c _ k => k (.cst c)) x
/-- the shape of all items -/
noncomputable def shpK {α : Type} (e : EV) : EV → (EV → α) → α := elist (fun a k => k a) (fun a k => k a) (fun x _ ih a k => mrgK a x fun z => ih z k) e
/-- x has the shape z (or ends before); no list in it -/
noncomputable def cnf (x : EV) : EV → Bool := EV.rec (motive := fun _ => EV → Bool)
  (evc false true (fun _ => false) (fun _ => false) (fun _ => false) false (fun _ _ => false) (fun _ => false) (fun _ => false) (fun _ => false))
  (fun _ => evc false false (fun _ => true) (fun _ => false) (fun _ => false) false (fun _ _ => false) (fun _ => false) (fun _ => false) (fun _ => false))
  (fun _ => evc false false (fun _ => false) (fun _ => true) (fun _ => false) false (fun _ _ => false) (fun _ => false) (fun _ => false) (fun _ => false))
  (fun s _ => evc false false (fun _ => false) (fun _ => false) (fun _ => elist false true (fun _ _ _ => true) s) false (fun _ _ => false) (fun _ => false) (fun _ => false) (fun _ => false))
  (evc false false (fun _ => false) (fun _ => false) (fun _ => false) true (fun _ _ => true) (fun _ => false) (fun _ => false) (fun _ => false))
  (fun _ _ i1 i2 => evc false false (fun _ => false) (fun _ => false) (fun _ => false) false (fun b bs => andB (i1 b) (i2 bs)) (fun _ => false) (fun _ => false) (fun _ => false))
  (fun _ ih => evc false false (fun _ => false) (fun _ => false) (fun _ => false) false (fun _ _ => false) ih (fun _ => false) (fun _ => false))
  (fun _ _ _ => false) (fun _ _ => false) (fun _ _ => false) (fun _ _ => false) x
/-- how deep a shape is: at most n -/
noncomputable def dpB (z : EV) : Nat → Bool := EV.rec (motive := fun _ => Nat → Bool) (fun _ => true) (fun _ _ => true) (fun _ _ => true) (fun _ _ _ => true) (fun _ => true) (fun _ _ i1 i2 n => andB (i1 n) (i2 n)) (fun _ ih n => Nat.rec (motive := fun _ => Bool) false (fun n _ => ih n) n) (fun _ _ _ => true) (fun _ _ => true) (fun _ _ => true) (fun _ _ => true) z
theorem cnf_alike : ∀ x : EV, (∀ y z d e, cnf x z = true → cnf y z = true → (Dt x).1 = some d → (Dt y).1 = some e → alike d e = true) ∧ (∀ y z ds es, cnf x z = true → cnf y z = true → (Dt x).2 = some ds → (Dt y).2 = some es → alikeAll ds es = true)
  | .non => ⟨fun y z d e h1 h2 h3 h4 => by
    cases h3
    cases z with
    | non =>
      cases y with
      | non => cases h4; simp [alike]
      | _ => (cases h2)
    | _ => (cases h1), fun _ _ _ _ _ _ h => nomatch h⟩
  | .bl b => ⟨fun y z d e h1 h2 h3 h4 => by
    cases h3
    cases z with
    | bl =>
      cases y with
      | bl => cases h4; simp [alike]
      | _ => (cases h2)
    | _ => (cases h1), fun _ _ _ _ _ _ h => nomatch h⟩
  | .int i => ⟨fun y z d e h1 h2 h3 h4 => by
    cases h3
    cases z with
    | int =>
      cases y with
      | int => cases h4; simp [alike]
      | _ => (cases h2)
    | _ => (cases h1), fun _ _ _ _ _ _ h => nomatch h⟩
  | .str s => ⟨fun y z d e h1 h2 h3 h4 => by
    obtain ⟨l, _, rfl⟩ := Dt_str h3
    cases z with
    | str zz =>
      cases y with
      | str t => obtain ⟨k, _, rfl⟩ := Dt_str h4; simp [alike]
      | _ => (cases h2)
    | _ => (cases h1), fun _ _ _ _ _ _ h => nomatch h⟩
  | .nil => ⟨fun _ _ _ _ _ _ h => (nomatch h), fun y z ds es _ _ h3 _ => by cases h3; simp [alikeAll]⟩
  | .cons a t => ⟨fun _ _ _ _ _ _ h => (nomatch h), fun y z ds es h1 h2 h3 h4 => by
    obtain ⟨d, r, rfl, q1, q2⟩ := Dt_cons h3
    cases z with
    | cons za zt =>
      obtain ⟨b1, b2⟩ := Bool.and_eq_true_iff.mp (by rw [← andB_eq]; exact h1 : (cnf a za && cnf t zt) = true)
      cases y with
      | nil => cases h4; simp [alikeAll]
      | cons b u =>
        obtain ⟨e, r', rfl, p1, p2⟩ := Dt_cons h4
        obtain ⟨c1, c2⟩ := Bool.and_eq_true_iff.mp (by rw [← andB_eq]; exact h2 : (cnf b za && cnf u zt) = true)
        rw [alikeAll, (cnf_alike a).1 b za d e b1 c1 q1 p1, (cnf_alike t).2 u zt r r' b2 c2 q2 p2]; rfl
      | _ => (cases h4)
    | _ => (cases h1)⟩
  | .tup s => ⟨fun y z d e h1 h2 h3 h4 => by
    obtain ⟨l, hl, rfl⟩ := Dt_tup h3
    cases z with
    | tup zz =>
      cases y with
      | tup t =>
        obtain ⟨k, hk, rfl⟩ := Dt_tup h4
        rw [alike]
        exact (cnf_alike s).2 t zz l k h1 h2 hl hk
      | _ => (cases h2)
    | _ => (cases h1), fun _ _ _ _ _ _ h => nomatch h⟩
  | .lst _ => ⟨fun _ _ _ _ h => (nomatch h), fun _ _ _ _ h => (nomatch h)⟩
  | .ref _ => ⟨fun _ _ _ _ h => (nomatch h), fun _ _ _ _ h => (nomatch h)⟩
  | .ch _ => ⟨fun _ _ _ _ h => (nomatch h), fun _ _ _ _ h => (nomatch h)⟩
  | .cst _ => ⟨fun _ _ _ _ h => (nomatch h), fun _ _ _ _ h => (nomatch h)⟩
section
variable {Y : Fix} {ρ : Pl} {m : Nat} {h : Tr} {H : Hp}
theorem cnf_Dp {Kf : PySem.W.Frag} : ∀ x : EV, (∀ z v n, cnf x z = true → dpB z n = true → R Y ρ m H x v → ∃ d, (Dt x).1 = some d ∧ Dp Kf H v d ∧ d.depth ≤ n) ∧ (∀ z vs n, cnf x z = true → dpB z n = true → RL Y ρ m H x vs → ∃ ds, (Dt x).2 = some ds ∧ DpAll Kf H vs ds ∧ PyData.depthAll ds ≤ n)
  | .non => ⟨fun z v n _ _ r => by cases (show v = _ from r); exact ⟨.none, rfl, .non, by simp [PyData.depth]⟩, fun _ _ _ _ _ r => r.elim⟩
  | .bl b => ⟨fun z v n _ _ r => by cases (show v = _ from r); exact ⟨.bool b, rfl, .bl b, by simp [PyData.depth]⟩, fun _ _ _ _ _ r => r.elim⟩
  | .int i => ⟨fun z v n _ _ r => by cases (show v = _ from r); exact ⟨.int i, rfl, .int i, by simp [PyData.depth]⟩, fun _ _ _ _ _ r => r.elim⟩
  | .str s => ⟨fun z v n h1 _ r => by
    obtain ⟨l, hl, rfl⟩ := r
    have hc : codes s = some l := by
      cases z with
      | str zz =>
        cases s with
        | nil => exact hl
        | cons => exact hl
        | _ => (cases h1)
      | _ => (cases h1)
    exact ⟨.str ⟨l.toArray⟩, by show (codes s).map _ = _; rw [hc]; rfl, .str _, by simp [PyData.depth]⟩, fun _ _ _ _ _ r => r.elim⟩
  | .nil => ⟨fun _ _ _ _ _ r => r.elim, fun z vs n _ _ r => by cases (show vs = [] from r); exact ⟨[], rfl, .nil, by simp [PyData.depthAll]⟩⟩
  | .cons a t => ⟨fun _ _ _ _ _ r => r.elim, fun z vs n h1 h2 r => by
    obtain ⟨x, r', rfl, ra, rt⟩ := r
    cases z with
    | cons za zt =>
      obtain ⟨b1, b2⟩ := Bool.and_eq_true_iff.mp (by rw [← andB_eq]; exact h1 : (cnf a za && cnf t zt) = true)
      obtain ⟨c1, c2⟩ := Bool.and_eq_true_iff.mp (by rw [← andB_eq]; exact h2 : (dpB za n && dpB zt n) = true)
      obtain ⟨d, d1, d2, d3⟩ := (cnf_Dp a).1 za x n b1 c1 ra
      obtain ⟨ds, s1, s2, s3⟩ := (cnf_Dp t).2 zt r' n b2 c2 rt
      exact ⟨d :: ds, Dt_cons' d1 s1, .cons d2 s2, by simp only [PyData.depthAll]; omega⟩
    | _ => (cases h1)⟩
  | .tup s => ⟨fun z v n h1 h2 r => by
    obtain ⟨a, vs, rfl, ha, _, rl⟩ := r
    cases z with
    | tup zz =>
      cases n with
      | zero => cases h2
      | succ n =>
        obtain ⟨ds, s1, s2, s3⟩ := (cnf_Dp s).2 zz vs n h1 h2 rl
        exact ⟨.tuple ds, by show (Dt s).2.map _ = _; rw [s1]; rfl, .tup (SqT.of ha) s2, by simp only [PyData.depth]; omega⟩
    | _ => (cases h1), fun _ _ _ _ _ r => r.elim⟩
  | .lst _ => ⟨fun _ _ _ h => (nomatch h), fun _ _ _ h => (nomatch h)⟩
  | .ref _ => ⟨fun _ _ _ h => (nomatch h), fun _ _ _ h => (nomatch h)⟩
  | .ch _ => ⟨fun _ _ _ h => (nomatch h), fun _ _ _ h => (nomatch h)⟩
  | .cst _ => ⟨fun _ _ _ h => (nomatch h), fun _ _ _ h => (nomatch h)⟩
end
/-! ### merge sort -/
def EL (l : List EV) : EV := l.foldr .cons .nil
noncomputable def msK {α : Type} (d : α) (xs : EV) : EV → EV → (EV → α) → α := elist (fun _ _ _ => d) (fun ys acc k => revK acc ys k)
  (fun x xs ih ys => elist (fun _ _ => d) (fun acc k => revK acc (.cons x xs) k) (fun y ys ih2 acc k => c4 (ih2 (.cons y acc) k) (ih (.cons y ys) (.cons x acc) k) (ih (.cons y ys) (.cons x acc) k) (ih (.cons y ys) (.cons x acc) k) (cE y x)) ys) xs
theorem revK_EL {α : Type} : ∀ (acc : List EV) (ys : EV) (k : EV → α), revK (EL acc) ys k = k (acc.foldl (fun r x => .cons x r) ys)
  | [], ys, k => rfl
  | x :: acc, ys, k => revK_EL acc (.cons x ys) k
theorem fold_EL : ∀ (acc ys : List EV), acc.foldl (fun r x => EV.cons x r) (EL ys) = EL (acc.reverse ++ ys)
  | [], ys => rfl
  | x :: acc, ys => by
    show acc.foldl (fun r x => EV.cons x r) (EL (x :: ys)) = _
    rw [fold_EL acc (x :: ys), List.reverse_cons, List.append_assoc]; rfl
theorem revK_perm {α : Type} (acc ys : List EV) (k : EV → α) : ∃ zs, revK (EL acc) (EL ys) k = k (EL zs) ∧ zs.Perm (acc ++ ys) := by
  refine ⟨acc.reverse ++ ys, ?_, List.Perm.append_right _ (List.reverse_perm _)⟩
  rw [revK_EL, fold_EL]
theorem msK_perm {α : Type} (d : α) : ∀ (xs ys acc : List EV) (k : EV → α), ∃ zs, msK d (EL xs) (EL ys) (EL acc) k = k (EL zs) ∧ zs.Perm (acc ++ (xs ++ ys))
  | [], ys, acc, k => revK_perm acc ys k
  | x :: xs, [], acc, k => by
    obtain ⟨zs, e, p⟩ := revK_perm acc (x :: xs) k
    exact ⟨zs, e, by rw [List.append_nil]; exact p⟩
  | x :: xs, y :: ys, acc, k => by
    have right : ∃ zs, msK d (EL xs) (EL (y :: ys)) (EL (x :: acc)) k = k (EL zs) ∧ zs.Perm (acc ++ (x :: xs ++ y :: ys)) := by
      obtain ⟨zs, e, p⟩ := msK_perm d xs (y :: ys) (x :: acc) k
      exact ⟨zs, e, p.trans (by rw [List.cons_append, List.cons_append]; exact List.perm_middle.symm)⟩
    show ∃ zs, c4 (msK d (EL (x :: xs)) (EL ys) (EL (y :: acc)) k) (msK d (EL xs) (EL (y :: ys)) (EL (x :: acc)) k) (msK d (EL xs) (EL (y :: ys)) (EL (x :: acc)) k) (msK d (EL xs) (EL (y :: ys)) (EL (x :: acc)) k) (cE y x) = k (EL zs) ∧ _
    cases cE y x with
    | lt =>
      obtain ⟨zs, e, p⟩ := msK_perm d (x :: xs) ys (y :: acc) k
      refine ⟨zs, e, p.trans ?_⟩
      show (y :: (acc ++ (x :: xs ++ ys))).Perm (acc ++ (x :: xs ++ y :: ys))
      rw [← List.append_assoc, ← List.append_assoc]
      exact List.perm_middle.symm
    | eq => exact right
    | gt => exact right
    | bad => exact right
end Dz

namespace Dz
open PySem L2 PySem.W
def ER (l : List (List EV)) : EV := EL (l.map EL)
noncomputable def psK {α : Type} (d : α) (runs : EV) : EV → EV → (EV → α) → α := elist (fun _ _ _ => d) (fun p out k => notN (revK out .nil k) (revK (.cons p out) .nil k) p)
  (fun r _ ih p out k => notN (ih r out k) (msK d p r .nil fun z => ih .non (.cons z out) k) p) runs
def pend : Option (List EV) → EV
  | none => .non
  | some p => EL p
theorem notN_EL {α : Type} (d k : α) (p : List EV) : notN d k (EL p) = k := by cases p <;> rfl
theorem EL_map (l : List (List EV)) (acc : List (List EV)) : (EL (acc.map EL)) = ER acc := rfl
theorem revK_ER {α : Type} (out : List (List EV)) (k : EV → α) : revK (ER out) .nil k = k (ER out.reverse) := by
  show revK (EL (out.map EL)) (EL []) k = _
  rw [revK_EL, fold_EL, List.append_nil]
  show k (EL (out.map EL).reverse) = k (EL (out.reverse.map EL))
  rw [List.map_reverse]
theorem flat_rev (out : List (List EV)) : out.reverse.flatten.Perm out.flatten := by
  induction out with
  | nil => exact .refl _
  | cons x out ih =>
    rw [List.reverse_cons, List.flatten_append, List.flatten_cons, List.flatten_cons, List.flatten_nil, List.append_nil]
    exact (List.perm_append_comm).trans (List.Perm.append_left _ ih)
theorem psK_perm {α : Type} (d : α) : ∀ (runs : List (List EV)) (p : Option (List EV)) (out : List (List EV)) (k : EV → α), ∃ outs, psK d (ER runs) (pend p) (ER out) k = k (ER outs) ∧ outs.flatten.Perm (out.flatten ++ (p.getD [] ++ runs.flatten))
  | [], none, out, k => ⟨out.reverse, revK_ER out k, by simpa using flat_rev out⟩
  | [], some p, out, k => by
    refine ⟨(p :: out).reverse, ?_, ?_⟩
    · show notN _ (revK (ER (p :: out)) .nil k) (EL p) = _
      rw [notN_EL, revK_ER]
    · refine (flat_rev _).trans ?_
      rw [List.flatten_cons]
      simpa using (List.perm_append_comm (l₁ := p) (l₂ := out.flatten))
  | r :: runs, none, out, k => by
    obtain ⟨outs, e, q⟩ := psK_perm d runs (some r) out k
    exact ⟨outs, e, q⟩
  | r :: runs, some p, out, k => by
    obtain ⟨zs, e1, q1⟩ := msK_perm (α := α) d p r [] (fun z => psK d (ER runs) .non (.cons z (ER out)) k)
    obtain ⟨outs, e2, q2⟩ := psK_perm d runs none (zs :: out) k
    refine ⟨outs, ?_, ?_⟩
    · show notN _ (msK d (EL p) (EL r) .nil fun z => psK d (ER runs) .non (.cons z (ER out)) k) (EL p) = _
      rw [notN_EL]
      exact e1.trans e2
    · refine q2.trans ?_
      rw [List.flatten_cons, List.flatten_cons]
      show ((zs ++ out.flatten) ++ ([] ++ runs.flatten)).Perm (out.flatten ++ (p ++ (r ++ runs.flatten)))
      rw [List.nil_append, List.append_assoc]
      refine (List.Perm.append_right _ (show zs.Perm (p ++ r) from q1)).trans ?_
      rw [← List.append_assoc p r runs.flatten]
      exact List.perm_append_comm_assoc _ _ _
noncomputable def srK {α : Type} (d : α) (n : Nat) : EV → (EV → α) → α := Nat.rec (motive := fun _ => EV → (EV → α) → α) (fun _ _ => d) (fun _ ih runs k => onCons (k .nil) (fun r rs => onCons (k r) (fun _ _ => psK d runs .non .nil fun out => ih out k) rs) runs) n
theorem srK_perm {α : Type} {P : α → Prop} {d : α} (hb : ¬ P d) : ∀ (n : Nat) (runs : List (List EV)) (k : EV → α), P (srK d n (ER runs) k) → ∃ zs, P (k (EL zs)) ∧ zs.Perm runs.flatten
  | 0, _, _, p => absurd p hb
  | n + 1, [], k, p => ⟨[], p, .refl _⟩
  | n + 1, [r], k, p => ⟨r, p, by simp⟩
  | n + 1, r :: r2 :: rs, k, p => by
    obtain ⟨outs, e, q⟩ := psK_perm d (r :: r2 :: rs) none [] (fun out => srK d n out k)
    have p' : P (psK d (ER (r :: r2 :: rs)) .non .nil fun out => srK d n out k) := p
    have e' : psK d (ER (r :: r2 :: rs)) .non .nil (fun out => srK d n out k) = srK d n (ER outs) k := e
    rw [e'] at p'
    obtain ⟨zs, h1, h2⟩ := srK_perm hb n outs k p'
    exact ⟨zs, h1, h2.trans q⟩
noncomputable def sgK {α : Type} (e : EV) : (EV → α) → α := elist (fun k => k .nil) (fun k => k .nil) (fun x _ ih k => ih fun z => k (.cons (.cons x .nil) z)) e
theorem sgK_eq {α : Type} : ∀ (l : List EV) (k : EV → α), sgK (EL l) k = k (ER (l.map fun x => [x]))
  | [], _ => rfl
  | x :: l, k => sgK_eq l (fun z => k (.cons (.cons x .nil) z))
noncomputable def srtB (e : EV) : Bool := elist false true (fun x xs ih => onCons true (fun y _ => andB (c4 true true false false (cE x y)) ih) xs) e
noncomputable def cnfAll (e z : EV) : Bool := elist false true (fun x _ ih => andB (cnf x z) ih) e
noncomputable def sortB (e z : EV) : Bool := EV.rec (motive := fun _ => Bool) false (fun _ => true) (fun _ => true) (fun _ _ => true) (elist false true (fun _ _ _ => false) e) (fun _ _ _ _ => false) (fun _ _ => elist false true (fun x _ ih => andB (onTup false (fun t => onCons false (fun _ _ => true) t) x) ih) e) (fun _ _ => false) (fun _ => false) (fun _ => false) (fun _ => false) z
def dt (v : EV) : PyData := (Dt v).1.getD .none
theorem cnfAll_of {z : EV} : ∀ l : List EV, cnfAll (EL l) z = true → ∀ x ∈ l, cnf x z = true
  | [], _, _, h => nomatch h
  | y :: l, h, x, hx => by
    obtain ⟨h1, h2⟩ := Bool.and_eq_true_iff.mp (by rw [← andB_eq]; exact h : (cnf y z && cnfAll (EL l) z) = true)
    rcases List.mem_cons.mp hx with rfl | hx
    · exact h1
    · exact cnfAll_of l h2 x hx
theorem leTot (k : EV → PyData) : TotalLe (dataLe false k) := sortLe_total _ _ _
theorem srtB_pairwise : ∀ l : List EV, (∀ x ∈ l, ∃ d, (Dt x).1 = some d) → srtB (EL l) = true → l.Pairwise fun a b => dataLe false dt a b = true
  | [], _, _ => .nil
  | [x], _, _ => List.pairwise_singleton _ _
  | x :: y :: l, hd, h => by
    obtain ⟨h1, h2⟩ := Bool.and_eq_true_iff.mp (by rw [← andB_eq]; exact h : (c4 true true false false (cE x y) && srtB (EL (y :: l))) = true)
    have ih := srtB_pairwise (y :: l) (fun u hu => hd u (List.mem_cons_of_mem _ hu)) h2
    obtain ⟨d, hx⟩ := hd x List.mem_cons_self
    obtain ⟨e, hy⟩ := hd y (List.mem_cons_of_mem _ List.mem_cons_self)
    have says := (says_data x).1 y d e hx hy
    have hxy : dataLe false dt x y = true := by
      show (!dataLt (dt y) (dt x)) = true
      have e1 : dt x = d := by unfold dt; rw [hx]; rfl
      have e2 : dt y = e := by unfold dt; rw [hy]; rfl
      rw [e1, e2]
      cases z : cE x y with
      | lt => rw [z] at says; rw [says.2.2.2]; rfl
      | eq => rw [z] at says; rw [says.2.2.2]; rfl
      | gt => rw [z] at h1; cases h1
      | bad => rw [z] at h1; cases h1
    refine List.Pairwise.cons (fun u hu => ?_) ih
    rcases List.mem_cons.mp hu with rfl | hu
    · exact hxy
    · exact (leTot dt).trans _ _ _ hxy ((List.pairwise_cons.mp ih).1 u hu)
theorem cmpI_nb (i j : Int) : cmpI i j ≠ .bad := by
  rw [cmpI_eq]
  split
  · exact fun z => nomatch z
  · split <;> exact fun z => nomatch z
theorem comb_nb {a b : C4} (ha : a ≠ .bad) (hb : b ≠ .bad) : comb a b ≠ .bad := by
  cases a <;> cases b <;> first | exact absurd rfl ha | exact absurd rfl hb | exact fun z => nomatch z
theorem cE_codes_nb : ∀ (x y : EV) (l k : List Nat), codes x = some l → codes y = some k → cE x y ≠ .bad
  | .nil, y, l, k, e1, e2 => by
    cases y with
    | nil => exact fun z => nomatch z
    | cons => exact fun z => nomatch z
    | _ => (cases e2)
  | .cons a t, y, l, k, e1, e2 => by
    obtain ⟨a, rfl⟩ := codes_no e1
    obtain ⟨l1, rfl, q1, _⟩ := codes_cons e1
    cases y with
    | nil => exact fun z => nomatch z
    | cons c u =>
      obtain ⟨c, rfl⟩ := codes_no e2
      obtain ⟨r, rfl, q, _⟩ := codes_cons e2
      refine comb_nb (show cmpN a c ≠ .bad from ?_) (cE_codes_nb t u l1 r q1 q)
      rw [cmpN_eq]
      split
      · exact fun z => nomatch z
      · split <;> exact fun z => nomatch z
    | _ => (cases e2)
  | .non, _, _, _, e1, _ => by cases e1
  | .bl _, _, _, _, e1, _ => by cases e1
  | .int _, _, _, _, e1, _ => by cases e1
  | .str _, _, _, _, e1, _ => by cases e1
  | .tup _, _, _, _, e1, _ => by cases e1
  | .lst _, _, _, _, e1, _ => by cases e1
  | .ref _, _, _, _, e1, _ => by cases e1
  | .ch _, _, _, _, e1, _ => by cases e1
  | .cst _, _, _, _, e1, _ => by cases e1
theorem cE_alike : ∀ x : EV, (∀ y d e, (Dt x).1 = some d → (Dt y).1 = some e → alike d e = true → cE x y ≠ .bad) ∧ (∀ y ds es, (Dt x).2 = some ds → (Dt y).2 = some es → alikeAll ds es = true → cE x y ≠ .bad)
  | .non => ⟨fun y d e h1 h2 h => by
    cases h1
    cases y with
    | non => exact fun z => nomatch z
    | str => obtain ⟨_, _, rfl⟩ := Dt_str h2; simp [alike] at h
    | tup => obtain ⟨_, _, rfl⟩ := Dt_tup h2; simp [alike] at h
    | lst => obtain ⟨_, _, rfl⟩ := Dt_lst h2; simp [alike] at h
    | _ => first | (cases h2; done) | (cases h2; simp [alike] at h), fun _ _ _ h => (nomatch h)⟩
  | .bl b => ⟨fun y d e h1 h2 h => by
    cases h1
    cases y with
    | bl c => exact cmpI_nb _ _
    | str => obtain ⟨_, _, rfl⟩ := Dt_str h2; simp [alike] at h
    | tup => obtain ⟨_, _, rfl⟩ := Dt_tup h2; simp [alike] at h
    | lst => obtain ⟨_, _, rfl⟩ := Dt_lst h2; simp [alike] at h
    | _ => first | (cases h2; done) | (cases h2; simp [alike] at h), fun _ _ _ h => (nomatch h)⟩
  | .int b => ⟨fun y d e h1 h2 h => by
    cases h1
    cases y with
    | int c => exact cmpI_nb _ _
    | str => obtain ⟨_, _, rfl⟩ := Dt_str h2; simp [alike] at h
    | tup => obtain ⟨_, _, rfl⟩ := Dt_tup h2; simp [alike] at h
    | lst => obtain ⟨_, _, rfl⟩ := Dt_lst h2; simp [alike] at h
    | _ => first | (cases h2; done) | (cases h2; simp [alike] at h), fun _ _ _ h => (nomatch h)⟩
  | .str s => ⟨fun y d e h1 h2 h => by
    obtain ⟨l, hl, rfl⟩ := Dt_str h1
    cases y with
    | str t => obtain ⟨k, hk, rfl⟩ := Dt_str h2; exact cE_codes_nb s t l k hl hk
    | tup => obtain ⟨_, _, rfl⟩ := Dt_tup h2; simp [alike] at h
    | lst => obtain ⟨_, _, rfl⟩ := Dt_lst h2; simp [alike] at h
    | _ => first | (cases h2; done) | (cases h2; simp [alike] at h), fun _ _ _ h => (nomatch h)⟩
  | .nil => ⟨fun _ _ _ h => (nomatch h), fun y ds es h1 h2 h => by
    cases y with
    | nil => exact fun z => nomatch z
    | cons => exact fun z => nomatch z
    | _ => (cases h2)⟩
  | .cons a t => ⟨fun _ _ _ h => (nomatch h), fun y ds es h1 h2 h => by
    obtain ⟨d, r, rfl, q1, q2⟩ := Dt_cons h1
    cases y with
    | nil => exact fun z => nomatch z
    | cons b u =>
      obtain ⟨e, r', rfl, p1, p2⟩ := Dt_cons h2
      obtain ⟨a1, a2⟩ := alike_all_cons h
      exact comb_nb ((cE_alike a).1 b d e q1 p1 a1) ((cE_alike t).2 u r r' q2 p2 a2)
    | _ => (cases h2)⟩
  | .tup s => ⟨fun y d e h1 h2 h => by
    obtain ⟨l, hl, rfl⟩ := Dt_tup h1
    cases y with
    | tup t => obtain ⟨k, hk, rfl⟩ := Dt_tup h2; exact (cE_alike s).2 t l k hl hk (by simpa [alike] using h)
    | str => obtain ⟨_, _, rfl⟩ := Dt_str h2; simp [alike] at h
    | lst => obtain ⟨_, _, rfl⟩ := Dt_lst h2; simp [alike] at h
    | _ => first | (cases h2; done) | (cases h2; simp [alike] at h), fun _ _ _ h => (nomatch h)⟩
  | .lst s => ⟨fun y d e h1 h2 h => by
    obtain ⟨l, hl, rfl⟩ := Dt_lst h1
    cases y with
    | lst t => obtain ⟨k, hk, rfl⟩ := Dt_lst h2; exact (cE_alike s).2 t l k hl hk (by simpa [alike] using h)
    | str => obtain ⟨_, _, rfl⟩ := Dt_str h2; simp [alike] at h
    | tup => obtain ⟨_, _, rfl⟩ := Dt_tup h2; simp [alike] at h
    | _ => first | (cases h2; done) | (cases h2; simp [alike] at h), fun _ _ _ h => (nomatch h)⟩
  | .ref _ => ⟨fun _ _ _ h => (nomatch h), fun _ _ _ h => (nomatch h)⟩
  | .ch _ => ⟨fun _ _ _ h => (nomatch h), fun _ _ _ h => (nomatch h)⟩
  | .cst _ => ⟨fun _ _ _ h => (nomatch h), fun _ _ _ h => (nomatch h)⟩
section
variable {Y : Fix} {X : Cx} {CV : Nat → Value} {W : WX}
theorem RL.pairs {ρ m H} : ∀ (e : EV) (vs : List V), RL Y ρ m H e vs → ∃ ts : List (EV × V), e = EL (ts.map (·.1)) ∧ vs = ts.map (·.2) ∧ ∀ t ∈ ts, R Y ρ m H t.1 t.2
  | e, [], rl => by
    cases rl.nil_of
    exact ⟨[], rfl, rfl, fun _ h => nomatch h⟩
  | e, v :: vs, rl => by
    obtain ⟨a, t, z, ra, rt⟩ := rl.cons_of
    subst z
    obtain ⟨ts, rfl, rfl, h3⟩ := RL.pairs t vs rt
    exact ⟨(a, v) :: ts, rfl, rfl, fun u hu => by
      rcases List.mem_cons.mp hu with rfl | hu
      · exact ra
      · exact h3 u hu⟩
theorem RL.of_pairs {ρ m H} : ∀ (ts : List (EV × V)), (∀ t ∈ ts, R Y ρ m H t.1 t.2) → RL Y ρ m H (EL (ts.map (·.1))) (ts.map (·.2))
  | [], _ => rfl
  | t :: ts, h => RL.cons (h t List.mem_cons_self) (RL.of_pairs ts fun u hu => h u (List.mem_cons_of_mem _ hu))
noncomputable def srtR (e : EV) (h : Tr) (m : Nat) : RE := shpK e .nil fun z => Bool.rec (motive := fun _ => RE) .bad (sgK e fun rs => srK .bad 60 rs fun zs => Bool.rec (motive := fun _ => RE) .bad (newK (.lst zs) h m) (srtB zs)) (andB (cnfAll e z) (andB (dpB z 60) (sortB e z)))
noncomputable def fSorted : EV → Tr → Nat → RE := fun v h m => on1 (fun x => onRef .bad (fun i => onLst .bad (fun e => srtR e h m) (tget h i)) x) v
theorem shpK_eq {α : Type} (l : List EV) (a : EV) (k : EV → α) : ∃ z, shpK (EL l) a k = k z := by
  have mk : ∀ {β : Type} (x y : EV) (k : EV → β), ∃ z, mrgK x y k = k z := fun {β} x => by
    induction x with
    | cons a as i1 i2 =>
      intro y k
      cases y with
      | cons b bs =>
        obtain ⟨z1, e1⟩ := i1 b (fun z => mrgK as bs fun zs => k (.cons z zs))
        obtain ⟨z2, e2⟩ := i2 bs (fun zs => k (.cons z1 zs))
        exact ⟨_, e1.trans e2⟩
      | _ => exact ⟨.cons a as, rfl⟩
    | tup xs ih =>
      intro y k
      cases y with
      | tup ys =>
        obtain ⟨z1, e1⟩ := ih ys (fun z => k (.tup z))
        exact ⟨_, e1⟩
      | _ => exact ⟨.tup xs, rfl⟩
    | nil => intro y k; exact ⟨y, rfl⟩
    | _ => intro y k; exact ⟨_, rfl⟩
  induction l generalizing a with
  | nil => exact ⟨a, rfl⟩
  | cons x l ih =>
    obtain ⟨z, e⟩ := mk a x (fun z => shpK (EL l) z k)
    obtain ⟨z2, e2⟩ := ih z
    exact ⟨z2, e.trans e2⟩
theorem sortB_of {Kf : PySem.W.Frag} {z : EV} (ts : List EV) (hc : ∀ t ∈ ts, cnf t z = true) (hd : ∀ t ∈ ts, ∃ d, (Dt t).1 = some d) (h : sortB (EL ts) z = true) : Sortable (ts.map dt) := by
  have other : (∀ t ∈ ts, dt t ≠ .none ∧ ∀ xs, dt t ≠ .tuple xs) → Sortable (ts.map dt) := fun q => .inr fun d hd => by
    obtain ⟨t, ht, rfl⟩ := List.mem_map.mp hd
    exact q t ht
  cases z with
  | bl b =>
    exact other fun t ht => by
      have c := hc t ht
      cases t with
      | bl => exact ⟨fun z => (nomatch z), fun _ z => (nomatch z)⟩
      | nil => obtain ⟨d, hd⟩ := hd _ ht; cases hd
      | _ => (cases c)
  | int b =>
    exact other fun t ht => by
      have c := hc t ht
      cases t with
      | int => exact ⟨fun z => (nomatch z), fun _ z => (nomatch z)⟩
      | nil => obtain ⟨d, hd⟩ := hd _ ht; cases hd
      | _ => (cases c)
  | str b =>
    exact other fun t ht => by
      have c := hc t ht
      cases t with
      | str s =>
        obtain ⟨d, hd⟩ := hd _ ht
        have e : dt (.str s) = d := by unfold dt; rw [hd]; rfl
        obtain ⟨l, _, rfl⟩ := Dt_str hd
        rw [e]
        exact ⟨fun z => (nomatch z), fun _ z => (nomatch z)⟩
      | nil => obtain ⟨d, hd⟩ := hd _ ht; cases hd
      | _ => (cases c)
  | nil =>
    cases ts with
    | nil => exact .inr fun d hd => nomatch hd
    | cons => cases h
  | tup zz =>
    have all : ∀ l : List EV, (∀ t ∈ l, ∃ d, (Dt t).1 = some d) → elist false true (fun x _ ih => andB (onTup false (fun t => onCons false (fun _ _ => true) t) x) ih) (EL l) = true → ∀ t ∈ l, ∃ x r, dt t = .tuple (x :: r) := fun l => by
      induction l with
      | nil => intro _ _ t ht; exact nomatch ht
      | cons y l ih =>
        intro hd h t ht
        obtain ⟨h1, h2⟩ := Bool.and_eq_true_iff.mp (by rw [← andB_eq]; exact h : (onTup false (fun t => onCons false (fun _ _ => true) t) y && elist false true (fun x _ ih => andB (onTup false (fun t => onCons false (fun _ _ => true) t) x) ih) (EL l)) = true)
        rcases List.mem_cons.mp ht with rfl | ht
        · cases t with
          | tup s =>
            cases s with
            | cons a b =>
              obtain ⟨d, hd⟩ := hd _ List.mem_cons_self
              have e : dt (.tup (.cons a b)) = d := by unfold dt; rw [hd]; rfl
              obtain ⟨l1, hl, rfl⟩ := Dt_tup hd
              obtain ⟨x, r, rfl, _, _⟩ := Dt_cons hl
              exact ⟨x, r, e⟩
            | _ => (cases h1)
          | _ => (cases h1)
        · exact ih (fun u hu => hd u (List.mem_cons_of_mem _ hu)) h2 t ht
    exact .inl fun d hd' => by
      obtain ⟨t, ht, rfl⟩ := List.mem_map.mp hd'
      exact all ts hd h t ht
  | _ => cases h
theorem o_sorted {Kf : PySem.W.Frag} : OpN Y CV W fSorted (rSortedD Kf) := fun σ ρ m h H v xs Q s rl q => by
  obtain ⟨a, x, rfl, rfl, ra, q⟩ := on1_E rl q
  obtain ⟨i, rfl, hi, rfl, q⟩ := onRef_E ra q
  obtain ⟨e, vs, _, hv, re, q⟩ := onLst_E s hi q
  obtain ⟨ts, rfl, rfl, hts⟩ := RL.pairs e vs re
  have q' : PostE Y CV W σ ρ m H (shpK (EL (ts.map (·.1))) .nil fun z => Bool.rec (motive := fun _ => RE) .bad (sgK (EL (ts.map (·.1))) fun rs => srK .bad 60 rs fun zs => Bool.rec (motive := fun _ => RE) .bad (newK (.lst zs) h m) (srtB zs)) (andB (cnfAll (EL (ts.map (·.1))) z) (andB (dpB z 60) (sortB (EL (ts.map (·.1))) z)))) _ := q
  obtain ⟨z, ez⟩ := shpK_eq (α := RE) (ts.map (·.1)) .nil fun z => Bool.rec (motive := fun _ => RE) .bad (sgK (EL (ts.map (·.1))) fun rs => srK .bad 60 rs fun zs => Bool.rec (motive := fun _ => RE) .bad (newK (.lst zs) h m) (srtB zs)) (andB (cnfAll (EL (ts.map (·.1))) z) (andB (dpB z 60) (sortB (EL (ts.map (·.1))) z)))
  rw [ez] at q'
  obtain ⟨b, q'⟩ := bok_E q'
  rw [andB_eq, andB_eq, Bool.and_eq_true, Bool.and_eq_true] at b
  obtain ⟨b1, b2, b3⟩ := b
  rw [sgK_eq] at q'
  obtain ⟨zs, q', pz⟩ := srK_perm (d := RE.bad) (P := fun r => PostE Y CV W σ ρ m H r fun ρ' m' _ H' z => ∀ u, R Y ρ' m' H' z u → Q u H') (fun z => z) 60 _ _ q'
  obtain ⟨b4, q'⟩ := bok_E q'
  have hcn := cnfAll_of _ b1
  have hdt : ∀ t ∈ ts, ∃ d, (Dt t.1).1 = some d ∧ Dp Kf H t.2 d ∧ d.depth ≤ 60 := fun t ht => (cnf_Dp t.1).1 z t.2 60 (hcn _ (List.mem_map.mpr ⟨t, ht, rfl⟩)) b2 (hts t ht)
  have hdt' : ∀ x ∈ ts.map (·.1), ∃ d, (Dt x).1 = some d := fun x hx => by
    obtain ⟨t, ht, rfl⟩ := List.mem_map.mp hx
    obtain ⟨d, hd, _⟩ := hdt t ht
    exact ⟨d, hd⟩
  have pz' : zs.Perm (ts.map (·.1)) := by
    have : ((ts.map (·.1)).map fun x => [x]).flatten = ts.map (·.1) := by
      generalize ts.map (·.1) = l
      induction l with
      | nil => rfl
      | cons x l ih => rw [List.map_cons, List.flatten_cons, ih]; rfl
    rw [this] at pz
    exact pz
  have hz : zs = (ts.map (·.1)).mergeSort (dataLe false dt) := by
    refine List.Perm.eq_of_pairwise (le := fun a b => dataLe false dt a b = true) (fun x y hx hy h1 h2 => ?_) (srtB_pairwise zs (fun x hx => hdt' x (pz'.mem_iff.mp hx)) b4) (sort_pairwise (leTot dt) _) (pz'.trans (List.mergeSort_perm _ _).symm)
    have hx' := pz'.mem_iff.mp hx
    have hy' := (List.mergeSort_perm _ _).mem_iff.mp hy
    obtain ⟨d, hd⟩ := hdt' x hx'
    obtain ⟨e, he⟩ := hdt' y hy'
    have al := (cnf_alike x).1 y z d e (hcn x hx') (hcn y hy') hd he
    have says := (says_data x).1 y d e hd he
    have e1 : dt x = d := by unfold dt; rw [hd]; rfl
    have e2 : dt y = e := by unfold dt; rw [he]; rfl
    have g1 : (!dataLt (dt y) (dt x)) = true := h1
    have g2 : (!dataLt (dt x) (dt y)) = true := h2
    rw [e1, e2] at g1 g2
    cases w : cE x y with
    | eq => exact cE_eq x y w
    | lt => rw [w] at says; rw [says.2.2.1] at g2; cases g2
    | gt => rw [w] at says; rw [says.2.2.2] at g1; cases g1
    | bad => exact ((cE_alike x).1 y d e hd he al w).elim
  let f : EV × V → V × PyData := fun t => (t.2, dt t.1)
  refine ⟨ρ i, ts.map f, rfl, ?_, ?_, ?_, ?_, ?_, fun p hp => ?_⟩
  · rw [List.map_map]; exact SqL.of hv
  · intro u hu
    obtain ⟨t, ht, rfl⟩ := List.mem_map.mp hu
    obtain ⟨d, hd, dp, _⟩ := hdt t ht
    show Dp Kf H t.2 (dt t.1)
    unfold dt; rw [hd]; exact dp
  · intro d hd d' hd'
    rw [List.map_map] at hd hd'
    obtain ⟨t, ht, rfl⟩ := List.mem_map.mp hd
    obtain ⟨u, hu, rfl⟩ := List.mem_map.mp hd'
    obtain ⟨d, hd, _⟩ := hdt t ht
    obtain ⟨e, he, _⟩ := hdt u hu
    show alike (dt t.1) (dt u.1) = true
    unfold dt; rw [hd, he]
    exact (cnf_alike t.1).1 u.1 z d e (hcn _ (List.mem_map.mpr ⟨t, ht, rfl⟩)) (hcn _ (List.mem_map.mpr ⟨u, hu, rfl⟩)) hd he
  · rw [List.map_map]
    have := sortB_of (Kf := Kf) (ts.map (·.1)) hcn hdt' b3
    rw [List.map_map] at this
    exact this
  · intro u hu
    obtain ⟨t, ht, rfl⟩ := List.mem_map.mp hu
    obtain ⟨d, hd, _, dd⟩ := hdt t ht
    show (dt t.1).depth ≤ 60
    unfold dt; rw [hd]; exact dd
  · have r1 : ((ts.map f).mergeSort (dataLe false (·.2))).map (·.1) = (ts.mergeSort fun a b => dataLe false (·.2) (f a) (f b)).map (·.2) := by
      rw [← List.map_mergeSort (r := fun a b => dataLe false (·.2) (f a) (f b)) (fun a _ b _ => rfl), List.map_map]; rfl
    have r2 : (ts.mergeSort fun a b => dataLe false (·.2) (f a) (f b)).map (·.1) = zs := by
      rw [hz]
      exact List.map_mergeSort (fun a _ b _ => rfl)
    rw [r1]
    refine new_list s ?_ hp q'
    rw [← r2]
    exact RL.of_pairs _ fun t ht => hts t ((List.mergeSort_perm _ _).mem_iff.mp ht)
end
end Dz

namespace Dz
open PySem L2
/-! ### repr of data -/
def rReprD (K : PySem.W.Frag) : List V → Hp → VK → Prop := fun xs H Q => ∃ a d, xs = [V.ref a] ∧ Dp K H (V.ref a) d ∧ d.showable = true ∧ d.hasDict = false ∧ d.depth ≤ 60 ∧ d.shown.length ≤ sizeLine ∧ Q (.str d.shown) H
theorem call_reprD {X : Cx} (hg : X.A.guards = some []) (hu : X.A.units + 64 < cLine) : CallR X (.builtin "repr") (rReprD X.K) := by
  intro pins s σ H xs us Q I rx h
  obtain ⟨a, d, rfl, hd, hs, hn, hde, hl, q⟩ := h
  rw [Vals.ref1 rx]
  obtain ⟨as, r⟩ := Dp.reads I d _ _ hd (show RelV (V.ref a) (Value.ref a) from rfl)
  refine repr_of_reads' r hs (fun z => by rw [hn] at z; cases z) hg (by omega) (fun _ _ e => e) (fun h' u tk hk => ?_) hl
  exact ⟨.str d.shown, H, I.kept hk, ⟨_, rfl⟩, q⟩
/-- how long what is shown may be -/
noncomputable def shl (v : EV) : Nat := EV.rec (motive := fun _ => Nat) 4 (fun _ => 5) (fun _ => 0) (fun s _ => elist 0 2 (fun _ _ n => Nat.add n 10) s) 0 (fun _ _ a b => Nat.add a (Nat.add b 2)) (fun _ n => Nat.add n 3) (fun _ n => Nat.add n 3) (fun _ => 0) (fun _ => 0) (fun _ => 0) v
noncomputable def shB (v : EV) : Bool := EV.rec (motive := fun _ => Bool) true (fun _ => true) (fun _ => false) (fun _ _ => true) true (fun _ _ a b => andB a b) (fun _ n => n) (fun _ n => n) (fun _ => false) (fun _ => false) (fun _ => false) v
theorem shl_codes : ∀ (s : EV) (l : List Nat), codes s = some l → elist 0 2 (fun _ _ n => Nat.add n 10) s = 10 * l.length + 2
  | .nil, l, e => by cases (show some [] = some l from e); rfl
  | .cons a t, l, e => by
    obtain ⟨c, rfl⟩ := codes_no e
    obtain ⟨r, rfl, q, _⟩ := codes_cons e
    show Nat.add (elist 0 2 (fun _ _ n => Nat.add n 10) t) 10 = _
    rw [shl_codes t r q, List.length_cons]
    show 10 * r.length + 2 + 10 = _
    omega
  | .non, _, e => by cases e
  | .bl _, _, e => by cases e
  | .int _, _, e => by cases e
  | .str _, _, e => by cases e
  | .tup _, _, e => by cases e
  | .lst _, _, e => by cases e
  | .ref _, _, e => by cases e
  | .ch _, _, e => by cases e
  | .cst _, _, e => by cases e
theorem listText_le : ∀ ts : List Str, (listText ts).length ≤ piled ts + 3
  | [] => by decide +kernel
  | t :: r => by
    have e : (listText (t :: r)).length = (textFrom 1 ("[" ++ (if 0 > 0 then ", " else "" : String) ++ t) r).length + 1 := by
      show (textFrom 0 "[" (t :: r) ++ "]" : Str).length = _
      rw [strLen_append]; rfl
    rw [e, textFrom_length_pos _ _ _ (Nat.succ_pos 0), piled_cons, strLen_append, strLen_append]
    have e1 : (("[" : String) : Str).length = 1 := rfl
    have e2 : ((if 0 > 0 then ", " else "" : String) : Str).length = 0 := rfl
    rw [e1, e2]
    omega
theorem tupleText_le (ts : List Str) : (tupleText ts).length ≤ piled ts + 3 := by
  unfold tupleText
  rw [strLen_append, strLen_append]
  have e1 : (("(" : String) : Str).length = 1 := rfl
  have e2 : ((if ts.length == 1 then ",)" else ")" : String) : Str).length ≤ 2 := by split <;> decide +kernel
  cases ts with
  | nil =>
    have : (Str.join ", " []).length = 0 := rfl
    rw [this, e1]; omega
  | cons t r =>
    have := join_length_add (t :: r) (by simp)
    rw [e1]; omega
theorem codes_small : ∀ (s : EV) (l : List Nat), codes s = some l → ∀ c ∈ l, c < 16 ^ 8
  | .nil, l, e => by cases (show some [] = some l from e); exact fun _ h => nomatch h
  | .cons a t, l, e => by
    obtain ⟨c, rfl⟩ := codes_no e
    obtain ⟨r, rfl, q, hc⟩ := codes_cons e
    intro d hd
    rcases List.mem_cons.mp hd with rfl | hd
    · exact Nat.lt_trans hc (by decide)
    · exact codes_small t r q d hd
  | .non, _, e => by cases e
  | .bl _, _, e => by cases e
  | .int _, _, e => by cases e
  | .str _, _, e => by cases e
  | .tup _, _, e => by cases e
  | .lst _, _, e => by cases e
  | .ref _, _, e => by cases e
  | .ch _, _, e => by cases e
  | .cst _, _, e => by cases e
theorem shl_le : ∀ v : EV, (∀ d, (Dt v).1 = some d → shB v = true → d.shown.length ≤ shl v ∧ d.showable = true ∧ d.hasDict = false) ∧ (∀ ds, (Dt v).2 = some ds → shB v = true → piled (PyData.shownAll ds) ≤ shl v ∧ PyData.showableAll ds = true ∧ PyData.hasDictAll ds = false)
  | .non => ⟨fun d h _ => by cases h; exact ⟨by decide +kernel, rfl, rfl⟩, fun _ h => (nomatch h)⟩
  | .bl b => ⟨fun d h _ => by cases h; exact ⟨by cases b <;> decide +kernel, rfl, rfl⟩, fun _ h => nomatch h⟩
  | .int _ => ⟨fun d _ h => (nomatch h), fun _ h => (nomatch h)⟩
  | .str s => ⟨fun d h _ => by
    obtain ⟨l, hl, rfl⟩ := Dt_str h
    refine ⟨?_, by simp [PyData.showable], by simp [PyData.hasDict]⟩
    show _ ≤ elist 0 2 (fun _ _ n => Nat.add n 10) s
    rw [shl_codes s l hl]
    have := StrLaws.reprText_len ⟨l.toArray⟩ (codes_small s l hl)
    simpa [PyData.shown, PySem.Str.length] using this, fun _ h => nomatch h⟩
  | .nil => ⟨fun _ h => (nomatch h), fun ds h _ => by cases h; exact ⟨by simp [PyData.shownAll, piled], by simp [PyData.showableAll], by simp [PyData.hasDictAll]⟩⟩
  | .cons a t => ⟨fun _ h => (nomatch h), fun ds h hb => by
    obtain ⟨d, r, rfl, q1, q2⟩ := Dt_cons h
    obtain ⟨b1, b2⟩ := Bool.and_eq_true_iff.mp (by rw [← andB_eq]; exact hb : (shB a && shB t) = true)
    obtain ⟨a1, a2, a3⟩ := (shl_le a).1 d q1 b1
    obtain ⟨c1, c2, c3⟩ := (shl_le t).2 r q2 b2
    refine ⟨?_, by simp [PyData.showableAll, a2, c2], by simp [PyData.hasDictAll, a3, c3]⟩
    simp only [PyData.shownAll]
    rw [piled_cons]
    show _ ≤ shl a + (shl t + 2)
    omega⟩
  | .tup s => ⟨fun d h hb => by
    obtain ⟨l, hl, rfl⟩ := Dt_tup h
    obtain ⟨c1, c2, c3⟩ := (shl_le s).2 l hl hb
    refine ⟨?_, by simpa [PyData.showable] using c2, by simpa [PyData.hasDict] using c3⟩
    have := tupleText_le (PyData.shownAll l)
    simp only [PyData.shown]
    show _ ≤ shl s + 3
    omega, fun _ h => nomatch h⟩
  | .lst s => ⟨fun d h hb => by
    obtain ⟨l, hl, rfl⟩ := Dt_lst h
    obtain ⟨c1, c2, c3⟩ := (shl_le s).2 l hl hb
    refine ⟨?_, by simpa [PyData.showable] using c2, by simpa [PyData.hasDict] using c3⟩
    have := listText_le (PyData.shownAll l)
    simp only [PyData.shown]
    show _ ≤ shl s + 3
    omega, fun _ h => nomatch h⟩
  | .ref _ => ⟨fun _ h => (nomatch h), fun _ h => (nomatch h)⟩
  | .ch _ => ⟨fun _ h => (nomatch h), fun _ h => (nomatch h)⟩
  | .cst _ => ⟨fun _ h => (nomatch h), fun _ h => (nomatch h)⟩
noncomputable def reprR (z : EV) (h : Tr) (m : Nat) : RE := Bool.rec (motive := fun _ => RE) .bad (.ok (.str (.lst z)) h m) (andB (shB z) (Nat.ble (shl z) 16000000))
noncomputable def fRepr : EV → Tr → Nat → RE := fun v h m => on1 (fun x => EV.rec (motive := fun _ => RE) .bad (fun _ => .bad) (fun _ => .bad) (fun _ _ => .bad) .bad (fun _ _ _ _ => .bad) (fun _ _ => fz 5 h x 60 fun z => reprR z h m) (fun _ _ => .bad) (fun _ => fz 5 h x 60 fun z => reprR z h m) (fun _ => .bad) (fun _ => .bad) x) v
section
variable {Y : Fix} {X : Cx} {CV : Nat → Value} {W : WX}
theorem o_repr {Kf : PySem.W.Frag} : OpN Y CV W fRepr (rReprD Kf) := fun σ ρ m h H v xs Q s rl q => by
  obtain ⟨a, x, rfl, rfl, ra, q⟩ := on1_E rl q
  have fin : ∀ {p : Addr}, x = .ref p → PostE Y CV W σ ρ m H (fz 5 h a 60 fun z => reprR z h m) (fun ρ' m' _ H' z => ∀ u, R Y ρ' m' H' z u → Q u H') → rReprD Kf [x] H Q := fun {p} hx q => by
    obtain ⟨z, d, q, d1, d2, d3, d4⟩ := fz_data (Kf := Kf) s ra q (by omega)
    obtain ⟨b, q⟩ := bok_E q
    rw [andB_eq, Bool.and_eq_true] at b
    obtain ⟨s1, s2, s3⟩ := (shl_le z).1 d d1 b.1
    have hl := Nat.le_trans s1 (Nat.le_of_ble_eq_true b.2)
    subst hx
    refine ⟨p, d, rfl, d2, s2, s3, d4, Nat.le_of_lt (small16 hl), post_ok s q _ ⟨d.shown.cps.toList, ?_, ?_⟩⟩
    · show (Dt z).1.map _ = _
      rw [d1]; rfl
    · cases d.shown; rfl
  cases a with
  | tup xs => obtain ⟨p, vs, hx, _⟩ := ra; exact fin hx q
  | ref i => exact fin ra.2 q
  | _ => exact q.elim
/-! ### == of texts that show data -/
noncomputable def symK {α : Type} (d : α) (k : EV → α) (v : EV) : α := onStr d (fun s => EV.rec (motive := fun _ => α) d (fun _ => d) (fun _ => d) (fun _ _ => d) d (fun _ _ _ _ => d) (fun _ _ => d) (fun x _ => k x) (fun _ => d) (fun _ => d) (fun _ => d) s) v
noncomputable def fEqS (neg : Bool) : EV → EV → Tr → Nat → RE := fun v w h m => symK (fEqW neg v w h m) (fun x => symK .bad (fun y => c4 .bad (okB (notB neg) h m) .bad .bad (cE x y)) w) v
def rEqE (K : PySem.W.Frag) : R2 := fun x y H Q => rEqD K x y H Q ∨ rEq x y H Q
def rNeE (K : PySem.W.Frag) : R2 := fun x y H Q => rNeD K x y H Q ∨ rNe x y H Q
theorem op_eqE (hu : X.A.units + 64 < cLine) : OpR X (compareOp .Eq) (rEqE X.K) := OpR2.or (op_eqD hu) op_eq
theorem op_neE (hu : X.A.units + 64 < cLine) : OpR X (compareOp .NotEq) (rNeE X.K) := OpR2.or (op_neD hu) op_ne
theorem sym_cases {P : RE → Prop} {d : RE} {k : EV → RE} {v : EV} (p : P (symK d k v)) : P d ∨ ∃ x, v = .str (.lst x) ∧ P (k x) := by
  cases v with
  | str s =>
    cases s with
    | lst x => exact .inr ⟨x, rfl, p⟩
    | _ => exact .inl p
  | _ => exact .inl p
theorem eqS_of {neg : Bool} {σ : L2.St} {ρ m h H} {v w : EV} {x y : V} {Q : VK} (s : S Y ρ m h H) (rx : R Y ρ m H v x) (ry : R Y ρ m H w y) (p : PostE Y CV W σ ρ m H (fEqS neg v w h m) fun ρ' m' _ H' z => ∀ u, R Y ρ' m' H' z u → Q u H') :
    PostE Y CV W σ ρ m H (fEqW neg v w h m) (fun ρ' m' _ H' z => ∀ u, R Y ρ' m' H' z u → Q u H') ∨ ((∃ t, x = .str t ∧ y = .str t) ∧ Q (.bl (!neg)) H) := by
  rcases sym_cases (P := fun r => PostE Y CV W σ ρ m H r fun ρ' m' _ H' z => ∀ u, R Y ρ' m' H' z u → Q u H') (v := v) (d := fEqW neg v w h m) (k := fun x => symK .bad (fun y => c4 .bad (okB (notB neg) h m) .bad .bad (cE x y)) w) p with p1 | ⟨a, rfl, p1⟩
  · exact .inl p1
  · rcases sym_cases (P := fun r => PostE Y CV W σ ρ m H r fun ρ' m' _ H' z => ∀ u, R Y ρ' m' H' z u → Q u H') (v := w) (d := .bad) (k := fun y => c4 .bad (okB (notB neg) h m) .bad .bad (cE a y)) p1 with p2 | ⟨b, rfl, p2⟩
    · exact p2.elim
    · obtain ⟨l, hl, rfl⟩ := rx
      obtain ⟨k, hk, rfl⟩ := ry
      cases z : cE a b with
      | eq =>
        rw [z] at p2
        have e := cE_eq a b z
        subst e
        rw [hl] at hk
        cases hk
        have p' : PostE Y CV W σ ρ m H (okB (notB neg) h m) _ := p2
        rw [okB_eq, notB_eq] at p'
        exact .inr ⟨⟨_, rfl, rfl⟩, post_ok s p' _ rfl⟩
      | _ => rw [z] at p2; exact p2.elim
theorem o_eqS {Kf : PySem.W.Frag} : Op2 Y CV W (fEqS false) (rEqE Kf) := fun σ ρ m h H v w x y Q s rx ry p => by
  rcases eqS_of s rx ry p with p | ⟨⟨t, rfl, rfl⟩, q⟩
  · exact .inl (o_eq σ ρ m h H v w x y Q s rx ry p)
  · exact .inr ⟨rfl, by rw [decide_eq_true rfl]; exact q⟩
theorem o_neS {Kf : PySem.W.Frag} : Op2 Y CV W (fEqS true) (rNeE Kf) := fun σ ρ m h H v w x y Q s rx ry p => by
  rcases eqS_of s rx ry p with p | ⟨⟨t, rfl, rfl⟩, q⟩
  · exact .inl (o_ne σ ρ m h H v w x y Q s rx ry p)
  · exact .inr ⟨rfl, by rw [decide_eq_true rfl]; exact q⟩
end
/-! ### dicts -/
noncomputable def keyE (k1 k2 : EV) : Bool := evc false false (fun _ => false) (fun i => evc false false (fun _ => false) (fun j => eqI i j) (fun _ => false) false (fun _ _ => false) (fun _ => false) (fun _ => false) (fun _ => false) k2) (fun s => onStr false (fun t => eqE s t) k2) false (fun _ _ => false) (fun _ => false) (fun _ => false) (fun _ => false) k1
/-- a key that may be asked for -/
noncomputable def isKey {α : Type} (d k : α) (v : EV) : α := evc d d (fun _ => d) (fun _ => k) (fun s => elist d k (fun _ _ _ => k) s) d (fun _ _ => d) (fun _ => d) (fun _ => d) (fun _ => d) v
noncomputable def dfind {α : Type} (key : EV) (kn : α) (k : EV → α) (kvs : EV) : α := elist kn kn (fun e _ ih => onCons kn (fun a v => Bool.rec (motive := fun _ => α) ih (k v) (keyE a key)) e) kvs
noncomputable def dmap {α : Type} (key v : EV) (kvs : EV) : (EV → α) → α := elist (fun k => k .nil) (fun k => k .nil) (fun e _ ih k => ih fun z => k (.cons (onCons e (fun a _ => Bool.rec (motive := fun _ => EV) e (.cons a v) (keyE a key)) e) z)) kvs
noncomputable def dput {α : Type} (key v kvs : EV) (k : EV → α) : α := dfind key (appK (.cons (.cons key v) .nil) kvs k) (fun _ => dmap key v kvs k) kvs
theorem KyE_str {s : EV} {k : Key} (h : KyE (.str s) = some k) : ∃ l, codes s = some l ∧ k = .inr ⟨l.toArray⟩ := by
  have h' : (codes s).map (fun l => (Sum.inr ⟨l.toArray⟩ : Key)) = some k := h
  cases q : codes s with
  | none => rw [q] at h'; cases h'
  | some l => rw [q] at h'; cases h'; exact ⟨l, rfl, rfl⟩
theorem keyE_eq {a b : EV} {x y : Key} (ha : KyE a = some x) (hb : KyE b = some y) : keyE a b = decide (x = y) := by
  cases a with
  | int i =>
    cases ha
    cases b with
    | int j =>
      cases hb
      show eqI i j = _
      rw [eqI_eq, Bool.eq_iff_iff, beq_iff_eq, decide_eq_true_iff]
      constructor
      · intro e; rw [e]
      · intro e; injection e
    | str t => obtain ⟨l, _, rfl⟩ := KyE_str hb; exact (decide_eq_false (fun z => nomatch z)).symm
    | _ => (cases hb)
  | str s =>
    obtain ⟨l, hl, rfl⟩ := KyE_str ha
    cases b with
    | int j => cases hb; exact (decide_eq_false (fun z => nomatch z)).symm
    | str t =>
      obtain ⟨k, hk, rfl⟩ := KyE_str hb
      show eqE s t = _
      rw [eqE_codes s t l k hl hk, decide_eq_decide]
      constructor
      · intro e; rw [e]
      · intro e
        injection e with e
        injection e with e
        simpa using congrArg Array.toList e
    | _ => (cases hb)
  | _ => (cases ha)
section
variable {Y : Fix} {ρ : Pl} {m : Nat} {H : Hp} {α : Type} {P : α → Prop}
theorem isKey_of {d k : α} (hb : ¬ P d) {v : EV} {x : V} (rx : R Y ρ m H v x) (p : P (isKey d k v)) : ∃ ky, KyE v = some ky ∧ x = kV ky ∧ P k := by
  cases v with
  | int i => exact ⟨.inl i, rfl, rx, p⟩
  | str s =>
    obtain ⟨l, hl, rfl⟩ := rx
    obtain ⟨cl, p⟩ := plain_str hb hl p
    exact ⟨.inr ⟨l.toArray⟩, by show (codes s).map _ = _; rw [cl]; rfl, rfl, p⟩
  | _ => exact absurd p hb
theorem RD.nil_of {kvs : EV} (h : RD Y ρ m H kvs []) : kvs = .nil := by
  cases kvs with
  | nil => rfl
  | cons e r =>
    cases e with
    | cons a v => obtain ⟨_, _, _, z, _⟩ := h; cases z
    | _ => exact h.elim
  | _ => exact h.elim
theorem RD.cons_of {kvs : EV} {e : Ent} {es : List Ent} (h : RD Y ρ m H kvs (e :: es)) : ∃ a v r, kvs = .cons (.cons a v) r ∧ KyE a = some e.1 ∧ R Y ρ m H v e.2 ∧ RD Y ρ m H r es := by
  cases kvs with
  | nil => exact nomatch h
  | cons e' r =>
    cases e' with
    | cons a v =>
      obtain ⟨ky, y, t, z, h1, h2, h3⟩ := h
      injection z with z1 z2
      subst z1; subst z2
      exact ⟨a, v, r, rfl, h1, h2, h3⟩
    | _ => exact h.elim
  | _ => exact h.elim
theorem dfind_of {key : EV} {ky : Key} (hk : KyE key = some ky) {kn : α} {k : EV → α} : ∀ (kvs : EV) (es : List Ent), RD Y ρ m H kvs es → P (dfind key kn k kvs) → (valV es ky = none ∧ P kn) ∨ ∃ v x, valV es ky = some x ∧ R Y ρ m H v x ∧ P (k v)
  | kvs, [], rd, p => by
    cases rd.nil_of
    exact .inl ⟨rfl, p⟩
  | kvs, e :: es, rd, p => by
    obtain ⟨a, v, r, z, h1, h2, h3⟩ := rd.cons_of
    subst z
    have p' : P (Bool.rec (motive := fun _ => α) (dfind key kn k r) (k v) (keyE a key)) := p
    rw [keyE_eq h1 hk] at p'
    by_cases he : e.1 = ky
    · rw [decide_eq_true he] at p'
      exact .inr ⟨v, e.2, valV_pos he, h2, p'⟩
    · rw [decide_eq_false he] at p'
      rw [valV_neg he]
      exact dfind_of hk r es h3 p'
theorem dmap_of {key w : EV} {ky : Key} {x : V} (hk : KyE key = some ky) (rw' : R Y ρ m H w x) : ∀ (kvs : EV) (es : List Ent) (k : EV → α), RD Y ρ m H kvs es → ∃ z, dmap key w kvs k = k z ∧ RD Y ρ m H z (es.map fun kv => if kv.1 = ky then (kv.1, x) else kv)
  | kvs, [], k, rd => by
    cases rd.nil_of
    exact ⟨.nil, rfl, rfl⟩
  | kvs, e :: es, k, rd => by
    obtain ⟨a, v, r, z, h1, h2, h3⟩ := rd.cons_of
    subst z
    obtain ⟨z, ez, rz⟩ := dmap_of hk rw' r es (fun z => k (.cons (Bool.rec (motive := fun _ => EV) (.cons a v) (.cons a w) (keyE a key)) z)) h3
    refine ⟨_, ez, ?_⟩
    rw [keyE_eq h1 hk, List.map_cons]
    by_cases he : e.1 = ky
    · rw [decide_eq_true he, if_pos he]
      exact ⟨e.1, x, _, rfl, h1, rw', rz⟩
    · rw [decide_eq_false he, if_neg he]
      exact ⟨e.1, e.2, _, rfl, h1, h2, rz⟩
theorem dapp_of {key w : EV} {ky : Key} {x : V} (hk : KyE key = some ky) (rw' : R Y ρ m H w x) : ∀ (kvs : EV) (es : List Ent) (k : EV → α), RD Y ρ m H kvs es → ∃ z, appK (.cons (.cons key w) .nil) kvs k = k z ∧ RD Y ρ m H z (es ++ [(ky, x)])
  | kvs, [], k, rd => by
    cases rd.nil_of
    exact ⟨_, rfl, ky, x, [], rfl, hk, rw', rfl⟩
  | kvs, e :: es, k, rd => by
    obtain ⟨a, v, r, z, h1, h2, h3⟩ := rd.cons_of
    subst z
    obtain ⟨z, ez, rz⟩ := dapp_of hk rw' r es (fun z => k (.cons (.cons a v) z)) h3
    exact ⟨_, ez, e.1, e.2, _, rfl, h1, h2, rz⟩
theorem dput_of {key w : EV} {ky : Key} {x : V} (hk : KyE key = some ky) (rw' : R Y ρ m H w x) (kvs : EV) (es : List Ent) (k : EV → α) (rd : RD Y ρ m H kvs es) : ∃ z, dput key w kvs k = k z ∧ RD Y ρ m H z (L2.putK es ky x) := by
  obtain ⟨z1, e1, r1⟩ := dapp_of (α := α) hk rw' kvs es k rd
  obtain ⟨z2, e2, r2⟩ := dmap_of (α := α) hk rw' kvs es k rd
  have h : (valV es ky = none ∧ dput key w kvs k = k z1) ∨ ∃ v x, valV es ky = some x ∧ R Y ρ m H v x ∧ dput key w kvs k = k z2 := by
    rcases dfind_of (P := fun r => dput key w kvs k = r) (kn := appK (.cons (.cons key w) .nil) kvs k) (k := fun _ => dmap key w kvs k) hk kvs es rd rfl with ⟨a, b⟩ | ⟨v, u, a, b, c⟩
    · exact .inl ⟨a, b.trans e1⟩
    · exact .inr ⟨v, u, a, b, c.trans e2⟩
  unfold L2.putK
  rw [valV_any]
  rcases h with ⟨a, b⟩ | ⟨v, u, a, _, b⟩
  · rw [a]; exact ⟨z1, b, r1⟩
  · rw [a]; exact ⟨z2, b, r2⟩
end
end Dz

namespace Dz
open PySem L2
/-! ### a dict of the store, locked or not -/
noncomputable def onDR {α : Type} (d : α) (k : EV → α) (o : Option EO) : α := Option.rec (motive := fun _ => α) d (fun o => EO.rec (motive := fun _ => α) (fun _ => d) k k (fun _ _ => d) o) o
noncomputable def onFz {α : Type} (d : α) (k : EV → α) (o : Option EO) : α := Option.rec (motive := fun _ => α) d (fun o => EO.rec (motive := fun _ => α) (fun _ => d) (fun _ => d) k (fun _ _ => d) o) o
noncomputable def isDc (v : EV) (h : Tr) : Bool := onRef false (fun i => onDR false (fun _ => true) (tget h i)) v
section
variable {X : Fix} {CV : Nat → Value} {W : WX} {σ : L2.St} {ρ : Pl} {m : Nat} {H : Hp} {h : Tr} {K : KE} {α : Type} {P : α → Prop} {d : α}
theorem onDR_of (hb : ¬ P d) {k : EV → α} (s : S X ρ m h H) {i : Nat} (hi : i < m) (q : P (onDR d k (tget h i))) : ∃ xs es, Rd H (ρ i) (.dK es) ∧ RD X ρ m H xs es ∧ P (k xs) := by
  obtain ⟨o, ho, r⟩ := s.obj i hi
  rw [ho] at q
  cases o with
  | dct xs => obtain ⟨vs, q1, r1⟩ := r; exact ⟨xs, vs, .inl q1, r1, q⟩
  | frz xs => obtain ⟨o, vs, q1, r1⟩ := r; exact ⟨xs, vs, .inr ⟨o, q1⟩, r1, q⟩
  | _ => exact absurd q hb
theorem onFz_of (hb : ¬ P d) {k : EV → α} (s : S X ρ m h H) {i : Nat} (hi : i < m) (q : P (onFz d k (tget h i))) : ∃ xs o es, H (ρ i) = some (.frz o (.dK es)) ∧ RD X ρ m H xs es ∧ P (k xs) := by
  obtain ⟨o, ho, r⟩ := s.obj i hi
  rw [ho] at q
  cases o with
  | frz xs => obtain ⟨o, vs, q1, r1⟩ := r; exact ⟨xs, o, vs, q1, r1, q⟩
  | _ => exact absurd q hb
end
/-- one of two ways, by what has come of the operands -/
noncomputable def split2 (c : EV → Tr → Bool) (f g : EV → EV → Tr → Nat → RE) : EV → EV → Tr → Nat → RE := fun v w h m => Bool.rec (motive := fun _ => RE) (f v w h m) (g v w h m) (c v h)
section
variable {Y : Fix} {X : Cx} {CV : Nat → Value} {W : WX} {a b : CE} {ea eb : Expr} {pos : Pos}
theorem te_split {c : EV → Tr → Bool} {f g : EV → EV → Tr → Nat → RE} {r r' : R2} (hf : Op2 Y CV W f r) (hg : Op2 Y CV W g r') {σ : L2.St} {H : Hp} {Q : VK} (t : tE Y CV W (eOp (split2 c f g) a b) σ H Q) :
    tOp r (tE Y CV W a) (tE Y CV W b) σ H Q ∨ tOp r' (tE Y CV W a) (tE Y CV W b) σ H Q := by
  obtain ⟨l, h, m, ρ, s, lr, p⟩ := t
  have go : ∀ f' : EV → EV → Tr → Nat → RE, eOp (split2 c f g) a b l h m = eOp f' a b l h m → tE Y CV W (eOp f' a b) σ H Q := fun f' e => ⟨l, h, m, ρ, s, lr, by rw [← e]; exact p⟩
  cases z : a l h m with
  | bad => exact .inl (te_op hf (go f (by unfold eOp; rw [z]; rfl)))
  | exc => exact .inl (te_op hf (go f (by unfold eOp; rw [z]; rfl)))
  | ok v h1 m1 =>
    cases z2 : b l h1 m1 with
    | bad => exact .inl (te_op hf (go f (by unfold eOp; rw [z]; show bindE (b l h1 m1) _ = bindE (b l h1 m1) _; rw [z2]; rfl)))
    | exc => exact .inl (te_op hf (go f (by unfold eOp; rw [z]; show bindE (b l h1 m1) _ = bindE (b l h1 m1) _; rw [z2]; rfl)))
    | ok w h2 m2 =>
      have red : ∀ f', eOp f' a b l h m = f' v w h2 m2 := fun f' => by
        unfold eOp; rw [z]
        show bindE (b l h1 m1) _ = _
        rw [z2]; rfl
      cases q : c v h2 with
      | false => exact .inl (te_op hf (go f (by rw [red, red]; unfold split2; rw [q])))
      | true => exact .inr (te_op hg (go g (by rw [red, red]; unfold split2; rw [q])))
/-! d[k] -/
noncomputable def fDIx : EV → EV → Tr → Nat → RE := fun v w h m => onRef .bad (fun i => onDR .bad (fun kvs => isKey .bad (dfind w .bad (fun x => .ok x h m) kvs) w) (tget h i)) v
def rDGet : R2 := fun x y H Q => ∃ a v, x = .ref a ∧ DGet H a y (some v) ∧ Q v H
theorem o_dix : Op2 Y CV W fDIx rDGet := fun σ ρ m h H v w x y Q s rx ry p => by
  obtain ⟨i, rfl, hi, rfl, p1⟩ := onRef_E rx p
  obtain ⟨kvs, es, rd, rk, p2⟩ := onDR_of (P := fun r => PostE Y CV W σ ρ m H r fun ρ' m' _ H' z => ∀ u, R Y ρ' m' H' z u → Q u H') (d := RE.bad) (fun z => z) s hi p1
  obtain ⟨ky, hk, rfl, p3⟩ := isKey_of (P := fun r => PostE Y CV W σ ρ m H r fun ρ' m' _ H' z => ∀ u, R Y ρ' m' H' z u → Q u H') (d := RE.bad) (fun z => z) ry p2
  rcases dfind_of (P := fun r => PostE Y CV W σ ρ m H r fun ρ' m' _ H' z => ∀ u, R Y ρ' m' H' z u → Q u H') hk kvs es rk p3 with ⟨_, p4⟩ | ⟨v, u, e, ru, p4⟩
  · exact p4.elim
  · exact ⟨ρ i, u, rfl, .inl ⟨es, ky, rd, rfl, e.symm⟩, post_ok s p4 u ru⟩
noncomputable def fIxA : EV → EV → Tr → Nat → RE := split2 isDc fIx fDIx
theorem de_ixA (hu : X.A.units + 1 < cLine) (ha : PE X ea (tE Y CV W a)) (hb : PE X eb (tE Y CV W b)) (hs : PlainIx eb) : PE X (.Subscript ea eb pos) (tE Y CV W (eOp fIxA a b)) :=
  pe_mono (pe_either (pe_ix ix_E ha hb hs) (pe_dget hu ha hb hs)) fun σ H Q t => te_split o_ix o_dix t
/-! k in d, k not in d; x in a list -/
noncomputable def fDIn (neg : Bool) : EV → EV → Tr → Nat → RE := fun w v h m => onRef .bad (fun i => onDR .bad (fun kvs => isKey .bad (dfind w (okB neg h m) (fun _ => okB (notB neg) h m) kvs) w) (tget h i)) v
def rDIn (neg : Bool) : R2 := fun y x H Q => ∃ a o, x = .ref a ∧ DGet H a y o ∧ Q (.bl (if neg then !o.isSome else o.isSome)) H
theorem o_din {neg : Bool} : Op2 Y CV W (fDIn neg) (rDIn neg) := fun σ ρ m h H w v y x Q s ry rx p => by
  obtain ⟨i, rfl, hi, rfl, p1⟩ := onRef_E rx p
  obtain ⟨kvs, es, rd, rk, p2⟩ := onDR_of (P := fun r => PostE Y CV W σ ρ m H r fun ρ' m' _ H' z => ∀ u, R Y ρ' m' H' z u → Q u H') (d := RE.bad) (fun z => z) s hi p1
  obtain ⟨ky, hk, rfl, p3⟩ := isKey_of (P := fun r => PostE Y CV W σ ρ m H r fun ρ' m' _ H' z => ∀ u, R Y ρ' m' H' z u → Q u H') (d := RE.bad) (fun z => z) ry p2
  rcases dfind_of (P := fun r => PostE Y CV W σ ρ m H r fun ρ' m' _ H' z => ∀ u, R Y ρ' m' H' z u → Q u H') hk kvs es rk p3 with ⟨e, p4⟩ | ⟨v, u, e, ru, p4⟩
  · rw [okB_eq] at p4
    refine ⟨ρ i, none, rfl, .inl ⟨es, ky, rd, rfl, e.symm⟩, post_ok s p4 _ ?_⟩
    cases neg <;> rfl
  · rw [okB_eq, notB_eq] at p4
    refine ⟨ρ i, some u, rfl, .inl ⟨es, ky, rd, rfl, e.symm⟩, post_ok s p4 _ ?_⟩
    cases neg <;> rfl
noncomputable def anyEq (x : EV) (e : EV) : Bool := elist false false (fun y _ ih => orB (eqE y x) ih) e
noncomputable def fInL (neg : Bool) : EV → EV → Tr → Nat → RE := fun w v h m => fz 5 h w 60 fun w => onRef .bad (fun i => fz 5 h v 60 fun z => EV.rec (motive := fun _ => RE) .bad (fun _ => .bad) (fun _ => .bad) (fun _ _ => .bad) .bad (fun _ _ _ _ => .bad) (fun _ _ => .bad) (fun xs _ => okB (Bool.rec (motive := fun _ => Bool) (anyEq w xs) (notB (anyEq w xs)) neg) h m) (fun _ => .bad) (fun _ => .bad) (fun _ => .bad) z) v
theorem anyEq_eq {w : EV} {d : PyData} (hw : (Dt w).1 = some d) : ∀ (e : EV) (ds : List PyData), (Dt e).2 = some ds → anyEq w e = ds.any fun z => PyData.eqv z d
  | .nil, ds, h => by cases h; rfl
  | .cons a t, ds, h => by
    obtain ⟨x, r, rfl, q1, q2⟩ := Dt_cons h
    show orB (eqE a w) (anyEq w t) = _
    rw [orB_eq, (eqE_data a).1 w x d q1 hw, anyEq_eq hw t r q2]; rfl
  | .non, _, h => by cases h
  | .bl _, _, h => by cases h
  | .int _, _, h => by cases h
  | .str _, _, h => by cases h
  | .tup _, _, h => by cases h
  | .lst _, _, h => by cases h
  | .ref _, _, h => by cases h
  | .ch _, _, h => by cases h
  | .cst _, _, h => by cases h
theorem inL_E {Kf : PySem.W.Frag} {neg : Bool} {σ : L2.St} {ρ m h H} {w v : EV} {y x : V} {Q : VK} (s : S Y ρ m h H) (ry : R Y ρ m H w y) (rx : R Y ρ m H v x) (p : PostE Y CV W σ ρ m H (fInL neg w v h m) fun ρ' m' _ H' z => ∀ u, R Y ρ' m' H' z u → Q u H') :
    ∃ d ds, Dp Kf H y d ∧ Dp Kf H x (.list ds) ∧ SeqAt.shaped d = true ∧ SeqAt.shaped (.list ds) = true ∧ Q (.bl (if neg then !ds.any fun z => PyData.eqv z d else ds.any fun z => PyData.eqv z d)) H := by
  obtain ⟨w', d, p1, d1, d2, d3, _⟩ := fz_data (Kf := Kf) s ry p (by omega)
  obtain ⟨i, rfl, hi, rfl, p2⟩ := onRef_E rx p1
  obtain ⟨z, e, p3, e1, e2, e3, _⟩ := fz_data (Kf := Kf) s (show R Y ρ m H (.ref i) (.ref (ρ i)) from ⟨hi, rfl⟩) p2 (by omega)
  cases z with
  | lst xs =>
    obtain ⟨ds, hds, rfl⟩ := Dt_lst e1
    have p4 : PostE Y CV W σ ρ m H (okB (Bool.rec (motive := fun _ => Bool) (anyEq w' xs) (notB (anyEq w' xs)) neg) h m) _ := p3
    rw [okB_eq, notB_eq, anyEq_eq d1 xs ds hds] at p4
    refine ⟨d, ds, d2, e2, d3, e3, post_ok s p4 _ ?_⟩
    cases neg <;> rfl
  | _ => exact p3.elim
theorem o_inL {Kf : PySem.W.Frag} : Op2 Y CV W (fInL false) (rInD Kf) := fun σ ρ m h H w v y x Q s ry rx p => inL_E s ry rx p
theorem o_ninL {Kf : PySem.W.Frag} : Op2 Y CV W (fInL true) (rNotInD Kf) := fun σ ρ m h H w v y x Q s ry rx p => inL_E s ry rx p
/-! {} -/
noncomputable def eDict0 : CE := fun _ h m => newK (.dct .nil) h m
theorem de_dict0 : PE X (.Dict [] [] pos) (tE Y CV W eDict0) := pe_mono pe_dnewK fun σ H Q ⟨l, h, m, ρ, s, lr, p⟩ q hq => by
  obtain ⟨h', k, s', r⟩ := newK_of (o := .dct .nil) (ho := .dK []) s hq ⟨[], upd_same, rfl⟩ p
  exact k _ r
/-! d[k] = v -/
noncomputable def sDSet (cd ck cv : CE) : CS := fun l h m => bindES (cv l h m) l fun v h m => bindES (cd l h m) l fun d h m => bindES (ck l h m) l fun k h m => onRef .bad (fun i => onDct .bad (fun kvs => isKey .bad (dput k v kvs fun z => lenK z 0 fun n => Bool.rec (motive := fun _ => RS) .bad (tsetK (.dct z) .bad h i fun h' => .nx l h' m) (Nat.ble n 16000000)) k) (tget h i)) d
theorem lenK_RD {α : Type} {ρ m H} : ∀ (x : EV) (es : List Ent), RD Y ρ m H x es → ∀ (n : Nat) (k : Nat → α), lenK x n k = k (n + es.length)
  | x, [], h, n, k => by cases h.nil_of; rfl
  | x, e :: es, h, n, k => by
    obtain ⟨a, v, r, z, _, _, h3⟩ := h.cons_of
    subst z
    show forceN (Nat.succ n) (fun m => lenK r m k) = _
    rw [forceN_eq, lenK_RD r es h3]
    congr 1
    rw [List.length_cons]; omega
theorem ds_dset {ed ek ev : Expr} {cd ck cv : CE} {pos' : Pos} (hu : X.A.units + 1 < cLine) (hd : PE X ed (tE Y CV W cd)) (hk : PE X ek (tE Y CV W ck)) (hv : PE X ev (tE Y CV W cv)) (hs : swapsWith ev (some (.Subscript ed ek pos')) pos.line X.env = pure false) :
    PS X (.Assign [.Subscript ed ek pos'] ev pos) (tS Y CV W (sDSet cd ck cv)) := by
  refine ps_mono (ps_dput hu hd hk hv hs) fun D σ H ⟨l, h, m, ρ, s, lr, p⟩ => ⟨l, h, m, ρ, s, lr, PostE.mono (PostS.bind lr p) fun g1 m1 h1 H1 v e1 s1 p1 x rx => ?_⟩
  refine ⟨l, h1, m1, g1, s1, lr.mono e1, PostE.mono (PostS.bind (lr.mono e1) p1) fun g2 m2 h2 H2 d e2 s2 p2 y ry => ?_⟩
  refine ⟨l, h2, m2, g2, s2, (lr.mono e1).mono e2, PostE.mono (PostS.bind ((lr.mono e1).mono e2) p2) fun g3 m3 h3 H3 k e3 s3 p3 z rz => ?_⟩
  have lr3 := ((lr.mono e1).mono e2).mono e3
  have rx3 := (rx.mono e2).mono e3
  obtain ⟨i, rfl, hi, rfl, p4⟩ := onRef_S (R.mono e3 ry) p3
  obtain ⟨kvs, es, _, hes, rk, p5⟩ := onDct_S s3 hi p4
  obtain ⟨ky, hky, rfl, p6⟩ := isKey_of (P := fun r => PostS Y CV W g3 m3 H3 r D) (d := RS.bad) (fun z => z) rz p5
  obtain ⟨z, ez, rz'⟩ := dput_of (α := RS) hky rx3 kvs es (fun z => lenK z 0 fun n => Bool.rec (motive := fun _ => RS) .bad (tsetK (.dct z) .bad h3 i fun h' => .nx l h' m3) (Nat.ble n 16000000)) rk
  rw [ez, lenK_RD z _ rz', Nat.zero_add] at p6
  obtain ⟨b, p7⟩ := bok_S p6
  have hl : es.length < sizeLine := by
    have h1 := Nat.le_of_ble_eq_true b
    have h2 : es.length ≤ (L2.putK es ky x).length := by
      unfold L2.putK
      split
      · rw [List.length_map]; exact Nat.le_refl _
      · rw [List.length_append]; exact Nat.le_add_right _ _
    exact small16 (Nat.le_trans h2 h1)
  refine ⟨g3 i, _, rfl, DPut.k hes hl, ?_⟩
  rcases tsetK_eq (.dct z) RS.bad h3 i (fun h' => RS.nx l h' m3) with ⟨h', ht, et⟩ | et
  · rw [et] at p7
    have s' := put_S (o := .dct z) (ho := .dK (L2.putK es ky x)) s3 hi ⟨_, upd_same, RD.upd (s3.notT hi) _ _ rz'⟩ ht
    exact p7 g3 _ σ (put_ext hi hes (fun _ _ z => nomatch z)) s' (lr3.upd (s3.notT hi))
  · rw [et] at p7; exact p7.elim
end
end Dz

namespace Dz
open PySem L2
/-! ### what is walked: a list, a tuple, a text, a locked dict -/
noncomputable def chrK {α : Type} (e : EV) : (EV → α) → α := elist (fun k => k .nil) (fun k => k .nil) (fun c _ ih k => ih fun z => k (.cons (.str (.cons c .nil)) z)) e
noncomputable def keyK {α : Type} (e : EV) : (EV → α) → α := elist (fun k => k .nil) (fun k => k .nil) (fun e _ ih k => ih fun z => k (.cons (onCons e (fun a _ => a) e) z)) e
noncomputable def cAny (c : CE) : CE := fun l h m => bindE (c l h m) fun v h m => EV.rec (motive := fun _ => RE) .bad (fun _ => .bad) (fun _ => .bad) (fun s _ => elist .bad (.ok (.tup .nil) h m) (fun _ _ _ => chrK s fun z => .ok (.tup z) h m) s) .bad (fun _ _ _ _ => .bad) (fun xs _ => .ok (.tup xs) h m) (fun _ _ => .bad)
  (fun a => onLst (onFz .bad (fun kvs => keyK kvs fun z => .ok (.tup z) h m) (tget h a)) (fun _ => .ok (.ref a) h m) (tget h a)) (fun _ => .bad) (fun _ => .bad) v
section
variable {Y : Fix} {ρ : Pl} {m : Nat} {h : Tr} {H : Hp}
theorem chrK_of {α : Type} : ∀ (s : EV) (l : List Nat) (k : EV → α), codes s = some l → ∃ z, chrK s k = k z ∧ RL Y ρ m H z (l.map fun c => V.str ⟨#[c]⟩)
  | .nil, l, k, e => by cases (show some [] = some l from e); exact ⟨.nil, rfl, rfl⟩
  | .cons a t, l, k, e => by
    obtain ⟨c, rfl⟩ := codes_no e
    obtain ⟨r, rfl, q, hc⟩ := codes_cons e
    obtain ⟨z, ez, rz⟩ := chrK_of t r (fun z => k (.cons (.str (.cons (.ch c) .nil)) z)) q
    refine ⟨_, ez, RL.cons ⟨[c], ?_, rfl⟩ rz⟩
    show (if c < 1114112 then (codes .nil).map (c :: ·) else none) = _
    rw [if_pos hc]; rfl
  | .non, _, _, e => by cases e
  | .bl _, _, _, e => by cases e
  | .int _, _, _, e => by cases e
  | .str _, _, _, e => by cases e
  | .tup _, _, _, e => by cases e
  | .lst _, _, _, e => by cases e
  | .ref _, _, _, e => by cases e
  | .ch _, _, _, e => by cases e
  | .cst _, _, _, e => by cases e
theorem KyE_R {k : EV} {ky : Key} (h : KyE k = some ky) : R Y ρ m H k (kV ky) := by
  cases k with
  | int i => cases h; exact rfl
  | str s => obtain ⟨l, hl, rfl⟩ := KyE_str h; exact ⟨l, cdx_of hl, rfl⟩
  | _ => (cases h)
theorem keyK_of {α : Type} : ∀ (e : EV) (es : List Ent) (k : EV → α), RD Y ρ m H e es → ∃ z, keyK e k = k z ∧ RL Y ρ m H z (es.map fun kv => kV kv.1)
  | e, [], k, rd => by
    cases rd.nil_of
    exact ⟨.nil, rfl, rfl⟩
  | e, x :: es, k, rd => by
    obtain ⟨a, v, r, z, h1, h2, h3⟩ := rd.cons_of
    subst z
    obtain ⟨z, ez, rz⟩ := keyK_of r es (fun z => k (.cons a z)) h3
    exact ⟨_, ez, RL.cons (KyE_R h1) rz⟩
/-- the keys of a locked dict -/
def Kys (Y : Fix) (d : Addr) (o : Obj) (kvs : List Ent) (i : Nat) (src : EV) (ρ : Pl) (m : Nat) (H : Hp) : Prop := (∃ j, j < m ∧ ρ j = d) ∧ H d = some (.frz o (.dK kvs)) ∧ ∃ xs, src = .tup xs ∧ RL Y ρ m H xs ((kvs.map fun kv => kV kv.1).drop i)
theorem walk_kys {d : Addr} {o : Obj} {kvs : List Ent} : Walk Y (Itk d o kvs) (Kys Y d o kvs) where
  ext := fun e ⟨⟨j, h1, h2⟩, h3, xs, h4, h5⟩ => ⟨⟨j, Nat.lt_of_lt_of_le h1 e.le, by rw [e.eq j h1]; exact h2⟩, e.frz _ _ _ h3, xs, h4, RL.mono e h5⟩
  upd := fun hp hf ⟨⟨j, h1, h2⟩, h3, xs, h4, h5⟩ => ⟨⟨j, h1, h2⟩, by rw [upd_ne (fun z => hf j h1 (h2.trans z))]; exact h3, xs, h4, (RR.upd hp _).2 _ h5⟩
  turn := fun {i src ρ m h H} f s α d' P k stp hb p => by
    obtain ⟨hj, hd, xs, rfl, rl⟩ := f
    have p' : P (elist d' stp (fun x r _ => k x (.tup r)) xs) := p
    by_cases hl : kvs.length ≤ i
    · rw [List.drop_eq_nil_of_le (by rw [List.length_map]; exact hl)] at rl
      cases rl.nil_of
      exact .inl ⟨⟨hd, hl⟩, p'⟩
    · have hi : i < kvs.length := by omega
      have hi' : i < (kvs.map fun kv => kV kv.1).length := by rw [List.length_map]; exact hi
      rw [List.drop_eq_getElem_cons hi'] at rl
      obtain ⟨v, t, e, rv, rt⟩ := rl.cons_of
      subst e
      refine .inr ⟨⟨hd, hi⟩, v, .tup t, p', fun x H' y => ?_⟩
      obtain ⟨rfl, k', v', e1, rfl⟩ := y
      have e2 : (kvs.map fun kv => kV kv.1)[i] = kV k' := by
        rw [List.getElem_map]
        rw [List.getElem?_eq_getElem hi] at e1
        rw [Option.some.inj e1]
      rw [e2] at rv
      exact ⟨Ext.refl, s, rv, hj, hd, t, rfl, rt⟩
end
section
variable {Y : Fix} {X : Cx} {CV : Nat → Value} {W : WX} {pos p p2 tpos : Pos} {tg iter : Expr}
theorem dp_any {c : CE} (hi : PE X iter (tE Y CV W c)) : PI X tg iter (tW Y CV W (cAny c)) := by
  refine pi_mono (pi_either (pi_either (pi_list hi) (pi_tup hi)) (pi_either (pi_str hi) (pi_keys hi))) fun σ H Rr ⟨l, h, m, ρ, s, lr, p⟩ => ?_
  have p' := PostE.bind p
  cases z : c l h m with
  | bad => rw [z] at p'; exact p'.elim
  | exc k q h1 m1 => exact .inl (.inl ⟨l, h, m, ρ, s, lr, by rw [z] at p' ⊢; exact p'⟩)
  | ok v h1 m1 =>
    rw [z] at p'
    cases v with
    | tup xs =>
      refine .inl (.inr ⟨l, h, m, ρ, s, lr, ?_⟩)
      rw [z]
      intro g1 H1 e1 s1 x ⟨a, vs, ex, ha, na, rl⟩
      exact ⟨a, ex, ⟨vs, SqT.of ha⟩, post_ok s1 (p' g1 H1 e1 s1) (Itt X.K a) (Sub Y false a) walk_tup ⟨xs, vs, rfl, ha, na, rl⟩⟩
    | str t =>
      refine .inr (.inl ⟨l, h, m, ρ, s, lr, ?_⟩)
      rw [z]
      intro g1 H1 e1 s1 x ⟨k, hk, ex⟩
      refine ⟨⟨k.toArray⟩, ex, ?_⟩
      obtain ⟨ck, q⟩ := plain_E hk (p' g1 H1 e1 s1)
      have fin : ∀ {z : EV}, RL Y g1 m1 H1 z (k.map fun c => V.str ⟨#[c]⟩) → PostE Y CV W σ g1 m1 H1 (.ok (.tup z) h1 m1) (fun ρ' m' _ H' v => ∀ J F, Walk Y J F → F 0 v ρ' m' H' → Rr J H') → Rr (Its ⟨k.toArray⟩) H1 := fun {z} rz q => by
        refine post_ok s1 q (Its ⟨k.toArray⟩) (Told Y (k.map fun c => V.str ⟨#[c]⟩)) (walk_told (fun i H hi => ?_) (fun i H x H' y => ?_) fun i H hi => ?_) ⟨z, rfl, rz⟩
        · rw [List.length_map] at hi
          show i < k.toArray.size
          rw [List.size_toArray]; exact hi
        · obtain ⟨rfl, c, e, rfl⟩ := y
          refine ⟨rfl, fun hi => ?_⟩
          rw [List.getElem?_map]
          have e' : k[i]? = some c := by simpa using e
          rw [e']; rfl
        · rw [List.length_map] at hi
          show k.toArray.size ≤ i
          rw [List.size_toArray]; exact hi
      rcases q with ⟨rfl, _, q⟩ | ⟨_, q⟩
      · exact fin (z := .nil) rfl q
      · obtain ⟨zz, ez, rz⟩ := chrK_of (Y := Y) (ρ := g1) (m := m1) (H := H1) (α := RE) t k (fun z => .ok (.tup z) h1 m1) ck
        rw [ez] at q
        exact fin rz q
    | ref i =>
      have q0 : ∀ (g1 : Pl) (H1 : Hp), Ext ρ m H g1 m1 H1 → S Y g1 m1 h1 H1 → PostE Y CV W σ g1 m1 H1 (onLst (onFz .bad (fun kvs => keyK kvs fun z => .ok (.tup z) h1 m1) (tget h1 i)) (fun _ => .ok (.ref i) h1 m1) (tget h1 i)) _ := p'
      cases w : tget h1 i with
      | none =>
        rw [w] at q0
        exact .inl (.inl ⟨l, h, m, ρ, s, lr, by rw [z]; exact fun g1 H1 e1 s1 => (q0 g1 H1 e1 s1).elim⟩)
      | some o =>
        rw [w] at q0
        cases o with
        | lst xs =>
          refine .inl (.inl ⟨l, h, m, ρ, s, lr, ?_⟩)
          rw [z]
          intro g1 H1 e1 s1 x ⟨hi, ex⟩
          obtain ⟨o, ho, r⟩ := s1.obj i hi
          rw [w] at ho
          cases ho
          obtain ⟨vs, hv, rv⟩ := r
          exact ⟨g1 i, ex, ⟨vs, SqL.of hv⟩, post_ok s1 (q0 g1 H1 e1 s1) (Itl X.K (g1 i)) (Sub Y true (g1 i)) walk_list ⟨i, rfl, hi, rfl⟩⟩
        | frz kvs =>
          refine .inr (.inr ⟨l, h, m, ρ, s, lr, ?_⟩)
          rw [z]
          intro g1 H1 e1 s1 x ⟨hi, ex⟩
          obtain ⟨o, ho, r⟩ := s1.obj i hi
          rw [w] at ho
          cases ho
          obtain ⟨od, es, hv, rv⟩ := r
          refine ⟨g1 i, od, ex, .inl ⟨es, hv, ?_⟩⟩
          have q1 : PostE Y CV W σ g1 m1 H1 (keyK kvs fun z => .ok (.tup z) h1 m1) _ := q0 g1 H1 e1 s1
          obtain ⟨zz, ez, rz⟩ := keyK_of (α := RE) kvs es (fun z => .ok (.tup z) h1 m1) rv
          rw [ez] at q1
          exact post_ok s1 q1 (Itk (g1 i) od es) (Kys Y (g1 i) od es) walk_kys ⟨⟨i, hi, rfl⟩, hv, zz, rfl, rz⟩
        | _ => exact .inl (.inl ⟨l, h, m, ρ, s, lr, by rw [z]; exact fun g1 H1 e1 s1 => (q0 g1 H1 e1 s1).elim⟩)
    | _ => exact .inl (.inl ⟨l, h, m, ρ, s, lr, by rw [z]; exact fun g1 H1 e1 s1 => (p' g1 H1 e1 s1).elim⟩)
/-! ### a dict is locked while a statement runs -/
noncomputable def unlk (a : Nat) (r : RS) : RS := RS.rec (motive := fun _ => RS) (fun l h m => onFz .bad (fun kvs => tsetK (.dct kvs) .bad h a fun h => .nx l h m) (tget h a)) (fun v h m => onFz .bad (fun kvs => tsetK (.dct kvs) .bad h a fun h => .ret v h m) (tget h a)) (fun l h m => onFz .bad (fun kvs => tsetK (.dct kvs) .bad h a fun h => .brk l h m) (tget h a)) (fun l h m => onFz .bad (fun kvs => tsetK (.dct kvs) .bad h a fun h => .cnt l h m) (tget h a)) (fun c p l h m => .exc c p l h m) .bad r
noncomputable def lgetS (l : LL) : Nat → (EV → RS) → RS := LL.rec (motive := fun _ => Nat → (EV → RS) → RS) (fun _ _ => .bad)
  (fun _ ih n k => Nat.rec (motive := fun _ => RS) .bad (fun j _ => ih j k) n) (fun x _ ih n k => Nat.rec (motive := fun _ => RS) (k x) (fun j _ => ih j k) n) l
theorem lgetS_eq : ∀ (l : LL) (n : Nat) (k : EV → RS), (∃ x, (LLs l)[n]? = some (some x) ∧ lgetS l n k = k x) ∨ lgetS l n k = .bad
  | .nil, n, k => .inr rfl
  | .un r, 0, k => .inr rfl
  | .un r, n + 1, k => lgetS_eq r n k
  | .as x r, 0, k => .inl ⟨x, rfl, rfl⟩
  | .as x r, n + 1, k => lgetS_eq r n k
noncomputable def sLock (i : Nat) (c : CS) : CS := fun l h m => lgetS l i fun x => onRef .bad (fun a => onDct .bad (fun kvs => tsetK (.frz kvs) .bad h a fun h => unlk a (c l h m)) (tget h a)) x
theorem lock_Ext {ρ ρ' : Pl} {m m' : Nat} {H H' : Hp} {a : Nat} {od : Obj} {u : HO} (ha : a < m) (hu : H (ρ a) = some u) (nf : ∀ w v, u ≠ .frz w v) (e : Ext ρ m (upd H (ρ a) (.frz od u)) ρ' m' H') : Ext ρ m H ρ' m' H' ∧ Ext ρ m H ρ' m' (upd H' (ρ a) u) := by
  have new : ∀ i, m ≤ i → i < m' → H (ρ' i) = none := fun i h1 h2 => by
    have := e.new i h1 h2
    by_cases z : ρ' i = ρ a
    · rw [z, upd_same] at this; cases this
    · rw [upd_ne z] at this; exact this
  have keep : ∀ b o, H b = some o → Off ρ m b → b ≠ ρ a ∧ H' b = some o := fun b o h1 h2 => by
    have z : b ≠ ρ a := fun z => h2 a ha z.symm
    exact ⟨z, e.keep b o (by rw [upd_ne z]; exact h1) h2⟩
  have dom : ∀ b, H' b = none → H b = none := fun b h1 => by
    have := e.dom b h1
    by_cases z : b = ρ a
    · rw [z, upd_same] at this; cases this
    · rw [upd_ne z] at this; exact this
  have frz : ∀ b o v, H b = some (.frz o v) → b ≠ ρ a ∧ H' b = some (.frz o v) := fun b o v h1 => by
    have z : b ≠ ρ a := fun z => nf o v (by rw [z, hu] at h1; exact Option.some.inj h1)
    exact ⟨z, e.frz b o v (by rw [upd_ne z]; exact h1)⟩
  refine ⟨⟨e.le, e.eq, new, fun b o h1 h2 => (keep b o h1 h2).2, dom, fun b o v h1 => (frz b o v h1).2⟩, e.le, e.eq, new, fun b o h1 h2 => by rw [upd_ne (keep b o h1 h2).1]; exact (keep b o h1 h2).2, fun b h1 => ?_, fun b o v h1 => by rw [upd_ne (frz b o v h1).1]; exact (frz b o v h1).2⟩
  by_cases z : b = ρ a
  · rw [z, upd_same] at h1; cases h1
  · rw [upd_ne z] at h1; exact dom b h1
theorem tLock_of {c : CS} {i : Nat} {D : Ends} {σ : L2.St} {H : Hp} (t : tS Y CV W (sLock i c) D σ H) : tLock (tS Y CV W c) D σ H := by
  obtain ⟨l, h, m, ρ, s, lr, p⟩ := t
  have p0 : PostS Y CV W ρ m H (lgetS l i fun x => onRef .bad (fun a => onDct .bad (fun kvs => tsetK (.frz kvs) .bad h a fun h => unlk a (c l h m)) (tget h a)) x) D := p
  rcases lgetS_eq l i (fun x => onRef .bad (fun a => onDct .bad (fun kvs => tsetK (.frz kvs) .bad h a fun h => unlk a (c l h m)) (tget h a)) x) with ⟨x, ex, e⟩ | e
  · rw [e] at p0
    obtain ⟨v, ev, rv⟩ := lr.get i x ex
    obtain ⟨a, rfl, ha, rfl, p1⟩ := onRef_S rv p0
    obtain ⟨kvs, es, ho, hd, rk, p2⟩ := onDct_S s ha p1
    refine ⟨ρ a, .dK es, hd, trivial, fun od => ?_⟩
    rcases tsetK_eq (.frz kvs) RS.bad h a (fun h => unlk a (c l h m)) with ⟨h1, ht, et⟩ | et
    · rw [et] at p2
      have nt := s.notT ha
      have s1 : S Y ρ m h1 (upd H (ρ a) (.frz od (.dK es))) := put_S (o := .frz kvs) s ha ⟨od, es, upd_same, RD.upd nt _ _ rk⟩ ht
      refine ⟨l, h1, m, ρ, s1, lr.upd nt, ?_⟩
      -- what each end bears
      have back : ∀ {ρ' : Pl} {m' : Nat} {h' : Tr} {H' : Hp}, Ext ρ m (upd H (ρ a) (.frz od (.dK es))) ρ' m' H' → S Y ρ' m' h' H' → H' (ρ a) = some (.frz od (.dK es)) ∧ Ext ρ m H ρ' m' (upd H' (ρ a) (.dK es)) ∧ (∀ vs, H' (ρ a) ≠ some (.tup vs)) ∧
          ∀ {k : Tr → RS}, PostS Y CV W ρ m H (onFz .bad (fun kvs => tsetK (.dct kvs) .bad h' a k) (tget h' a)) D → ∃ h2, S Y ρ' m' h2 (upd H' (ρ a) (.dK es)) ∧ PostS Y CV W ρ m H (k h2) D := fun {ρ' m' h' H'} e s' => by
        have hf : H' (ρ a) = some (.frz od (.dK es)) := e.frz _ _ _ upd_same
        have ha' : a < m' := Nat.lt_of_lt_of_le ha e.le
        have er : ρ' a = ρ a := e.eq a ha
        have nt' : ∀ vs, H' (ρ a) ≠ some (.tup vs) := fun vs z => by rw [hf] at z; cases z
        refine ⟨hf, (lock_Ext ha hd (fun _ _ z => nomatch z) e).2, nt', fun {k} q => ?_⟩
        obtain ⟨kvs', o', es', h1', h2', q1⟩ := onFz_of (P := fun r => PostS Y CV W ρ m H r D) (d := RS.bad) (fun z => z) s' ha' q
        rw [er, hf] at h1'
        cases h1'
        rcases tsetK_eq (.dct kvs') RS.bad h' a k with ⟨h2, ht2, et2⟩ | et2
        · rw [et2] at q1
          rw [← er]
          exact ⟨h2, put_S (o := .dct kvs') s' ha' ⟨es, upd_same, RD.upd (by rw [er]; exact nt') _ _ h2'⟩ ht2, q1⟩
        · rw [et2] at q1; exact q1.elim
      cases z : c l h1 m with
      | nx l' h' m' =>
        rw [z] at p2
        intro ρ' H' σ' e s' lr'
        obtain ⟨b1, b2, b3, b4⟩ := back e s'
        obtain ⟨h2, s2, q⟩ := b4 (k := fun h => .nx l' h m') p2
        exact ⟨b1, q ρ' _ σ' b2 s2 (lr'.upd b3)⟩
      | ret v h' m' =>
        rw [z] at p2
        intro ρ' H' x e s' rx
        obtain ⟨b1, b2, b3, b4⟩ := back e s'
        obtain ⟨h2, s2, q⟩ := b4 (k := fun h => .ret v h m') p2
        exact ⟨b1, q ρ' _ x b2 s2 ((RR.upd b3 _).1 _ rx)⟩
      | brk l' h' m' =>
        rw [z] at p2
        intro ρ' H' σ' e s' lr'
        obtain ⟨b1, b2, b3, b4⟩ := back e s'
        obtain ⟨h2, s2, q⟩ := b4 (k := fun h => .brk l' h m') p2
        exact ⟨b1, q ρ' _ σ' b2 s2 (lr'.upd b3)⟩
      | cnt l' h' m' =>
        rw [z] at p2
        intro ρ' H' σ' e s' lr'
        obtain ⟨b1, b2, b3, b4⟩ := back e s'
        obtain ⟨h2, s2, q⟩ := b4 (k := fun h => .cnt l' h m') p2
        exact ⟨b1, q ρ' _ σ' b2 s2 (lr'.upd b3)⟩
      | exc k q l' h' m' =>
        rw [z] at p2
        intro ρ' H' σ' d e s' lr' xr
        exact p2 ρ' H' σ' d (lock_Ext ha hd (fun _ _ z => nomatch z) e).1 s' lr' xr
      | bad => rw [z] at p2; exact p2
    · rw [et] at p2; exact p2.elim
  · rw [e] at p0; exact p0.elim
theorem ds_lock {st : Stmt} {c : CS} {i : Nat} (h : PS X st (tS Y CV W c)) : PS X st (tS Y CV W (sLock i c)) := ps_mono (ps_lock h) fun _ _ _ => tLock_of
end
end Dz

namespace Dz
open PySem L2
/-! ### operations by name -/
inductive Bop | add | sub | mul | fdiv | mod | pow | shl | shr | band | bor | bxor
noncomputable def Bop.f (o : Bop) : EV → EV → Tr → Nat → RE := Bop.rec (motive := fun _ => EV → EV → Tr → Nat → RE) fAdd fSub fMul fFdiv fMod fPow fShl fShr fBand fBor fBxor o
def Bop.op : Bop → Operator
  | .add => .Add | .sub => .Sub | .mul => .Mult | .fdiv => .FloorDiv | .mod => .Mod | .pow => .Pow | .shl => .LShift | .shr => .RShift | .band => .BitAnd | .bor => .BitOr | .bxor => .BitXor
inductive Cop | lt | le | gt | ge | eq | ne | is | isnot | inl | ninl
noncomputable def Cop.f (o : Cop) : EV → EV → Tr → Nat → RE := Cop.rec (motive := fun _ => EV → EV → Tr → Nat → RE) fLt fLe fGt fGe (fEqS false) (fEqS true) (fIs false) (fIs true) (fInL false) (fInL true) o
def Cop.op : Cop → CmpOp
  | .lt => .Lt | .le => .LtE | .gt => .Gt | .ge => .GtE | .eq => .Eq | .ne => .NotEq | .is => .Is | .isnot => .IsNot | .inl => .In | .ninl => .NotIn
inductive Bn | len | all | any | sum | min | max | sorted | repr | int | list | tuple
noncomputable def Bn.f (o : Bn) : EV → Tr → Nat → RE := Bn.rec (motive := fun _ => EV → Tr → Nat → RE) fLen fAll fAny fSum (fMm minI) (fMm maxI) fSorted fRepr fInt fList fTuple o
def Bn.nm : Bn → Str
  | .len => "len" | .all => "all" | .any => "any" | .sum => "sum" | .min => "min" | .max => "max" | .sorted => "sorted" | .repr => "repr" | .int => "int" | .list => "list" | .tuple => "tuple"
inductive Mt | append | extend | pop
noncomputable def Mt.f (o : Mt) : EV → EV → Tr → Nat → RE := Mt.rec (motive := fun _ => EV → EV → Tr → Nat → RE) fAppend fExtend fPop o
def Mt.nm : Mt → Str
  | .append => "append" | .extend => "extend" | .pop => "pop"
inductive Ty | str | int | bool | list | tuple
def Ty.nm : Ty → Str
  | .str => "str" | .int => "int" | .bool => "bool" | .list => "list" | .tuple => "tuple"
def Ty.isi : Ty → Isi
  | .str => ⟨false, false, false, true, false, false⟩
  | .int => ⟨false, true, true, false, false, false⟩
  | .bool => ⟨false, true, false, false, false, false⟩
  | .list => ⟨false, false, false, false, false, true⟩
  | .tuple => ⟨false, false, false, false, true, false⟩
section
variable {Y : Fix} {X : Cx} {CV : Nat → Value} {W : WX}
theorem Bop.ok : ∀ o : Bop, ∃ r, OpR X (binaryOp o.op) r ∧ Op2 Y CV W o.f r
  | .add => ⟨_, op_addE, o_add⟩
  | .sub => ⟨_, op_sub, o_sub⟩
  | .mul => ⟨_, op_mulE, o_mul⟩
  | .fdiv => ⟨_, op_fdivW, o_fdiv⟩
  | .mod => ⟨_, op_mod, o_mod⟩
  | .pow => ⟨_, op_pow, o_pow⟩
  | .shl => ⟨_, op_shl, o_shl⟩
  | .shr => ⟨_, op_shr, o_shr⟩
  | .band => ⟨_, op_and, o_band⟩
  | .bor => ⟨_, op_or, o_bor⟩
  | .bxor => ⟨_, op_xor, o_bxor⟩
theorem Cop.ok (hu : X.A.units + 70 < cLine) : ∀ o : Cop, ∃ r, OpR X (compareOp o.op) r ∧ Op2 Y CV W o.f r
  | .lt => ⟨_, op_ltE (by omega), o_lt⟩
  | .le => ⟨_, op_leE (by omega), o_le⟩
  | .gt => ⟨_, op_gtE (by omega), o_gt⟩
  | .ge => ⟨_, op_geE (by omega), o_ge⟩
  | .eq => ⟨_, op_eqE (by omega), o_eqS⟩
  | .ne => ⟨_, op_neE (by omega), o_neS⟩
  | .is => ⟨_, op_isE, o_is⟩
  | .isnot => ⟨_, op_notE, o_isnot⟩
  | .inl => ⟨_, op_inD (by omega), o_inL⟩
  | .ninl => ⟨_, op_notInD (by omega), o_ninL⟩
/-- what a built-in's call asks of the surroundings -/
theorem Bn.ok {ca : CE} {es : List Expr} {pos p : Pos} (hu : X.A.units + 70 < cLine) (hc : X.calm = true) (ha : PA X es (tA Y CV W ca)) (he : es.all plainE = true) (h0 : es ≠ []) : ∀ o : Bn, ((match o with | .repr => true | _ => false) = true → X.A.guards = some []) → Gl X o.nm → X.mg o.nm = none →
    PE X (.Call (.Name o.nm p) es [] pos) (tE Y CV W (eUn o.f ca))
  | .len, _, hg, hm => de_cb call_lenE o_len hg hm (by decide +kernel) ha (by decide) (by decide) he h0
  | .all, _, hg, hm => de_cb (cr_all hc) o_all hg hm (by decide +kernel) ha (by decide) (by decide) he h0
  | .any, _, hg, hm => de_cb (cr_any hc) o_any hg hm (by decide +kernel) ha (by decide) (by decide) he h0
  | .sum, _, hg, hm => de_cb (cr_sum hc) o_sum hg hm (by decide +kernel) ha (by decide) (by decide) he h0
  | .min, _, hg, hm => de_cb (call_minE hc) o_min hg hm (by decide +kernel) ha (by decide) (by decide) he h0
  | .max, _, hg, hm => de_cb (call_maxE hc) o_max hg hm (by decide +kernel) ha (by decide) (by decide) he h0
  | .sorted, _, hg, hm => de_cb (cr_sortedD (by omega)) o_sorted hg hm (by decide +kernel) ha (by decide) (by decide) he h0
  | .repr, gd, hg, hm => de_cb (call_reprD (gd rfl) (by omega)) o_repr hg hm (by decide +kernel) ha (by decide) (by decide) he h0
  | .int, _, hg, hm => de_cty call_intE o_int1 hg hm (by decide +kernel) ha (by decide) (by decide) he h0
  | .list, _, hg, hm => de_cty call_listE o_list1 hg hm (by decide +kernel) ha (by decide) (by decide) he h0
  | .tuple, _, hg, hm => de_cty call_tupE o_tup1 hg hm (by decide +kernel) ha (by decide) (by decide) he h0
theorem Mt.ok {a ca : CE} {ea : Expr} {es : List Expr} {apos cpos : Pos} (ho : PE X ea (tE Y CV W a)) (ha : PA X es (tA Y CV W ca)) (hb : superE ea = true) (he : es.all plainE = true) (hn : es.length < 29) (hline : (apos.endLine == cpos.line) = true) (h0 : es = [] → ∀ l h m, ca l h m = .ok .nil h m) :
    ∀ o : Mt, PE X (.Call (.Attribute ea o.nm apos) es [] cpos) (tE Y CV W (eMtL o.f a ca))
  | .append => de_mtL PySem.F.slot_list_append PySem.F.type_list_append mt_append o_append ho ha hb he hn hline h0
  | .extend => de_mtL PySem.F.slot_list_extend PySem.F.type_list_extend mt_extend o_extend ho ha hb he hn hline h0
  | .pop => de_mtL PySem.F.slot_list_pop PySem.F.type_list_pop mt_pop o_pop ho ha hb he hn hline h0
theorem Ty.ok : ∀ t : Ty, ∃ T : String, t.isi.ok T = true ∧ bootBuiltins t.nm = some (.type T) ∧ t.nm ≠ "__name__" ∧ (t.nm == ("__debug__" : Str)) = false
  | .str => ⟨"str", by decide +kernel, by decide +kernel, by decide, by decide⟩
  | .int => ⟨"int", by decide +kernel, by decide +kernel, by decide, by decide⟩
  | .bool => ⟨"bool", by decide +kernel, by decide +kernel, by decide, by decide⟩
  | .list => ⟨"list", by decide +kernel, by decide +kernel, by decide, by decide⟩
  | .tuple => ⟨"tuple", by decide +kernel, by decide +kernel, by decide, by decide⟩
/-- truth of any value -/
theorem dt_tru {a : CE} {ea : Expr} (ha : PE X ea (tE Y CV W a)) (he : truE ea = true) : PT X ea (tT Y CV W (eUn fTru a)) := pt_mono (pt_truth ha (tru_plain he)) fun σ H Q ⟨l, h, m, ρ, s, lr, p⟩ =>
  ⟨l, h, m, ρ, s, lr, PostE.mono (PostE.bind p) fun g1 m1 h1 H1 v e1 s1 p1 x rx => by
    have fin : ∀ {b : Bool}, TruV X.K x H1 b → PostE Y CV W σ g1 m1 H1 (.ok (.bl b) h1 m1) (fun _ _ _ H' v => ∃ b, v = .bl b ∧ Q b H') → ∃ k, TruV X.K x H1 k ∧ Q k H1 := fun {b} tv q => by
      obtain ⟨c, ec, q⟩ := post_ok s1 q
      cases ec
      exact ⟨b, tv, q⟩
    cases v with
    | non => cases (show x = .non from rx); exact fin (b := false) rfl p1
    | bl b => cases (show x = .bl b from rx); exact fin (b := b) rfl p1
    | int i =>
      cases (show x = .int i from rx)
      cases i with
      | ofNat n =>
        cases n with
        | zero => exact fin (b := false) rfl p1
        | succ n => exact fin (b := true) rfl p1
      | negSucc n => exact fin (b := true) rfl p1
    | tup xs =>
      obtain ⟨a, vs, rfl, hv, _, rl⟩ := rx
      exact fin (.inr (.inl ⟨vs, SqT.of hv, rfl⟩)) (elist_len (α := .bad) (P := fun r => PostE Y CV W σ g1 m1 H1 r fun _ _ _ H' v => ∃ b, v = .bl b ∧ Q b H') (fun z => z) rl p1)
    | ref i =>
      obtain ⟨hi, rfl⟩ := rx
      obtain ⟨xs, vs, _, hv, rl, q⟩ := onLst_E s1 hi p1
      exact fin (.inl ⟨vs, SqL.of hv, rfl⟩) (elist_len (α := .bad) (P := fun r => PostE Y CV W σ g1 m1 H1 r fun _ _ _ H' v => ∃ b, v = .bl b ∧ Q b H') (fun z => z) rl q)
    | _ => exact p1.elim⟩
end
end Dz

namespace Dz
open PySem L2
noncomputable def fNeg : EV → Tr → Nat → RE := fun v h m => onInt .bad (fun i => okInt (Int.neg i) h m) v
theorem o_neg {Y : Fix} {CV : Nat → Value} {W : WX} : Op1 Y CV W fNeg (rU fun i => .int (-i)) := fun σ ρ m h H v x Q s rx p => by
  obtain ⟨i, rfl, rfl, p⟩ := onInt_E rx p
  rw [okInt_eq] at p
  exact ⟨i, rfl, post_ok s p _ rfl⟩
/-! ### expressions as data -/
inductive Ec where
  | var (i : Nat) | con (v : EV) | glo (n : Nat) | nil | cons (a b : Ec) | star (a b : Ec) | tup (a : Ec) | lst (a : Ec)
  | bin (o : Bop) (a b : Ec) | cmp (o : Cop) (a b : Ec) | chain (o o2 : Cop) (a b c : Ec) | and (a b : Ec) | or (a b : Ec) | one (a : Ec) | not (a : Ec) | neg (a : Ec) | ite (c a b : Ec) | tru (a : Ec) | yes
  | ix (a b : Ec) | sl (a : Ec) (l h : Bool) (lo hi : Ec) | call (f n : Nat) (es : Ec) | bn (o : Bn) (es : Ec) | isi (t : Ty) (a : Ec) | lset (a : Ec) | mt (o : Mt) (a es : Ec) | dict0
  | lc (own : List Nat) (g : Gd) (src cond elt : Ec) | lc2 (own : List Nat) (g : Gd) (src cond : Ec) (own1 : List Nat) (g1 : Gd) (src1 cond1 elt : Ec)
  | wAny (a : Ec) | rg1 (a : Ec) | rg2 (a b : Ec) | enu (a : Ec)
noncomputable def ptC (b : Bool) (c : CE) : CP := Bool.rec (motive := fun _ => CP) noP (prt c) b
/-- the table of what the written part gives: defs by number, values by number, exceptions by number -/
structure Tbl where
  fn : Nat → Option (Str × Nat)
  gl : Nat → Option (Str × EV)
  ex : Nat → Option Str
  em : Nat → Nat → Option Bool
noncomputable def glE (G : Nat → EV) (n : Nat) : CE := fun _ h m => .ok (G n) h m
noncomputable def Ec.den (F : Fns) (G : Nat → EV) (c : Ec) : CE := Ec.rec (motive := fun _ => CE) eVar eCon (glE G) eNil (fun _ _ a b => eCons a b) (fun _ _ a b => eStar a b) (fun _ a => eTup a) (fun _ a => eLst a)
  (fun o _ _ a b => eOp o.f a b) (fun o _ _ a b => eOp o.f a b) (fun o o2 _ _ _ a b c => eChain o.f o2.f a b c) (fun _ _ a b => eAnd a b) (fun _ _ a b => eOr a b) (fun _ a => a) (fun _ a => eNot a) (fun _ a => eUn fNeg a) (fun _ _ _ c a b => eIf c a b) (fun _ a => eUn fTru a) (eCon (.bl true))
  (fun _ _ a b => eOp fIxA a b) (fun _ l h _ _ a lo hi => eSl a (ptC l lo) (ptC h hi)) (fun f n _ es => eCall F f n es) (fun o _ es => eUn o.f es) (fun t _ a => eUn (fIsi t.isi) a) (fun _ a => eUn fLenSet a) (fun o _ _ a es => eMtL o.f a es) eDict0
  (fun own g _ _ _ src cond elt => eLc own g src cond elt) (fun own g _ _ own1 g1 _ _ _ src cond src1 cond1 elt => eLc2 own g src cond own1 g1 src1 cond1 elt)
  (fun _ a => cAny a) (fun _ a => cRg1 a) (fun _ _ a b => cRg2 a b) (fun _ a => cEnu a) c
/-! ### does the text say so -/
structure Ck where
  e : Scope → Bool → Expr → Bool
  a : Scope → Bool → List Expr → Bool
  t : Scope → Bool → Expr → Bool
  w : Scope → Bool → Expr → Bool
  i : Scope → Bool → Expr → Expr → Bool
  s : Scope → Bool → List Expr → Bool
def noE : Scope → Bool → Expr → Bool := fun _ _ _ => false
def noA : Scope → Bool → List Expr → Bool := fun _ _ _ => false
def noI : Scope → Bool → Expr → Expr → Bool := fun _ _ _ _ => false
def visB (N : List Str) (sc : Scope) (i : Nat) (x : Str) : Bool := decide (N[i]? = some x) && ((match sc.names.lookup x with | some .local => true | some .cell => true | some .free => true | _ => false) && (!(x == ("__debug__" : Str)) && !(x == ("__classdict__" : Str))))
def glB (sc : Scope) (x : Str) : Bool := match sc.names.lookup x with | some .globalImplicit => !(x == ("__debug__" : Str)) | _ => false
def conB (v : EV) (e : Expr) : Bool := match e, v with
  | .Constant (.int i) _ _, .int j => decide (i = j)
  | .Constant (.bool b) _ _, .bl c => b == c
  | .Constant .none _ _, .non => true
  | .Constant (.str x) _ _, .str s => decide (codes s = some x.cps.toList)
  | _, _ => false
def plainIxB (e : Expr) : Bool := match e with | .Slice _ _ _ _ => false | .Tuple _ _ _ => false | _ => true
/-- the scope of a comprehension, as it stands within one of scope sc -/
def rl (scope sc : Scope) : Scope := { scope with names := scope.names.map fun (n, k) => if (k == .free && sc.kind == .function && sc.names.lookup n == some .cell) then (n, .cell) else (n, k) }
def ownP (N : List Str) (own : List Nat) : List (Str × Nat) := own.map fun i => (N.getD i Str.empty, i)
/-- a plain value's test: itself a truth value -/
def Ck.val (e : Scope → Bool → Expr → Bool) : Scope → Bool → Expr → Bool := fun sc fl x => truE x && e sc fl x
def mkE (e : Scope → Bool → Expr → Bool) : Ck := ⟨e, noA, Ck.val e, noE, noI, fun sc fl es => match es with | [x] => Ck.val e sc fl x | _ => false⟩
def mkT (e t : Scope → Bool → Expr → Bool) : Ck := ⟨e, noA, t, noE, noI, fun sc fl es => match es with | [x] => t sc fl x | _ => false⟩
def Ec.ck (T : Tbl) (N : List Str) (gd : Bool) : Ec → Ck
  | .var i => mkE fun sc _ x => match x with | .Name y _ => visB N sc i y | _ => false
  | .con v => mkE fun _ _ x => conB v x
  | .glo n => mkE fun sc _ x => match x with | .Name y _ => glB sc y && (match T.gl n with | some p => decide (p.1 = y) | none => false) | _ => false
  | .nil => ⟨noE, fun _ _ es => es.isEmpty, noE, noE, noI, noA⟩
  | .cons a b => ⟨noE, fun sc fl es => match es with | e :: r => plainE e && (a.ck T N gd).e sc fl e && (b.ck T N gd).a sc fl r | [] => false, noE, noE, noI, noA⟩
  | .star a b => ⟨noE, fun sc fl es => match es with | .Starred e _ :: r => (a.ck T N gd).e sc fl e && (b.ck T N gd).a sc fl r | _ => false, noE, noE, noI, noA⟩
  | .tup a => mkE fun sc fl x => match x with | .Tuple es _ _ => (a.ck T N gd).a sc fl es | _ => false
  | .lst a => mkE fun sc fl x => match x with | .List es _ => (a.ck T N gd).a sc fl es | _ => false
  | .bin o a b => mkE fun sc fl x => match x with | .BinOp ea op eb _ => op == o.op && ((a.ck T N gd).e sc fl ea && (b.ck T N gd).e sc fl eb) | _ => false
  | .cmp o a b =>
    let f : Scope → Bool → Expr → Bool := fun sc fl x => match x with | .Compare ea [op] [eb] _ => op == o.op && !(behindInMarks op eb) && ((a.ck T N gd).e sc fl ea && (b.ck T N gd).e sc fl eb) | _ => false
    mkT f f
  | .chain o o2 a b c =>
    let f : Scope → Bool → Expr → Bool := fun sc fl x => match x with | .Compare ea [op, op2] [eb, ec] _ => op == o.op && op2 == o2.op && !(lastMarks [op, op2] [eb, ec]) && ((a.ck T N gd).e sc fl ea && ((b.ck T N gd).e sc fl eb && (c.ck T N gd).e sc fl ec)) | _ => false
    mkT f f
  | .and a b =>
    let e : Scope → Bool → Expr → Bool := fun sc fl x => match x with | .BoolOp .And (ea :: eb :: r) p => (a.ck T N gd).e sc fl ea && (b.ck T N gd).e sc fl (.BoolOp .And (eb :: r) p) | _ => false
    let w : Scope → Bool → Expr → Bool := fun sc fl x => match x with | .BoolOp .And (ea :: eb :: r) p => (a.ck T N gd).t sc fl ea && (b.ck T N gd).w sc fl (.BoolOp .And (eb :: r) p) | _ => false
    ⟨e, noA, w, w, noI, fun sc fl es => match es with | [x] => w sc fl x | _ => false⟩
  | .or a b =>
    let e : Scope → Bool → Expr → Bool := fun sc fl x => match x with | .BoolOp .Or (ea :: eb :: r) p => (a.ck T N gd).e sc fl ea && (b.ck T N gd).e sc fl (.BoolOp .Or (eb :: r) p) | _ => false
    let w : Scope → Bool → Expr → Bool := fun sc fl x => match x with | .BoolOp .Or (ea :: eb :: r) p => (a.ck T N gd).t sc fl ea && (b.ck T N gd).w sc fl (.BoolOp .Or (eb :: r) p) | _ => false
    ⟨e, noA, w, w, noI, fun sc fl es => match es with | [x] => w sc fl x | _ => false⟩
  | .one a => ⟨fun sc fl x => match x with | .BoolOp _ [e] _ => (a.ck T N gd).e sc fl e | _ => false, noA, fun sc fl x => match x with | .BoolOp _ [e] _ => (a.ck T N gd).t sc fl e | _ => false, fun sc fl x => match x with | .BoolOp _ [e] _ => (a.ck T N gd).t sc fl e | _ => false, noI, noA⟩
  | .not a => mkT (fun sc fl x => match x with | .UnaryOp .Not e _ => (a.ck T N gd).e sc fl e | _ => false) (fun sc fl x => match x with | .UnaryOp .Not e _ => (a.ck T N gd).t sc fl e | _ => false)
  | .neg a => mkE fun sc fl x => match x with | .UnaryOp .USub e _ => (a.ck T N gd).e sc fl e | _ => false
  | .ite c a b => ⟨fun sc fl x => match x with | .IfExp ec ea eb _ => (c.ck T N gd).t sc fl ec && ((a.ck T N gd).e sc fl ea && (b.ck T N gd).e sc fl eb) | _ => false, noA, noE, noE, noI, noA⟩
  | .tru a => ⟨noE, noA, fun sc fl x => truE x && (a.ck T N gd).e sc fl x, noE, noI, fun sc fl es => match es with | [x] => truE x && (a.ck T N gd).e sc fl x | _ => false⟩
  | .yes => ⟨noE, noA, noE, noE, noI, fun _ _ es => es.isEmpty⟩
  | .ix a b => mkE fun sc fl x => match x with | .Subscript ea eb _ => plainIxB eb && ((a.ck T N gd).e sc fl ea && (b.ck T N gd).e sc fl eb) | _ => false
  | .sl a l h lo hi => mkE fun sc fl x => match x with
    | .Subscript ea (.Slice el eh none _) _ => (a.ck T N gd).e sc fl ea && ((match el, l with | none, false => true | some e, true => (lo.ck T N gd).e sc fl e | _, _ => false) && (match eh, h with | none, false => true | some e, true => (hi.ck T N gd).e sc fl e | _, _ => false))
    | _ => false
  | .call f n es => mkE fun sc fl x => match x with | .Call (.Name y _) l [] _ => glB sc y && ((match T.fn f with | some p => decide (p.1 = y) && p.2 == n | none => false) && ((es.ck T N gd).a sc fl l && l.all plainE)) | _ => false
  | .bn o es => mkE fun sc fl x => match x with | .Call (.Name y _) l [] _ => glB sc y && (decide (y = o.nm) && ((match o with | .repr => gd | _ => true) && ((es.ck T N gd).a sc fl l && (l.all plainE && !l.isEmpty)))) | _ => false
  | .isi t a => mkE fun sc fl x => match x with | .Call (.Name y _) [e, .Name z _] [] _ => glB sc y && (glB sc z && (decide (y = "isinstance") && (decide (z = t.nm) && (plainE e && (a.ck T N gd).e sc fl e)))) | _ => false
  | .lset a => mkE fun sc fl x => match x with | .Call (.Name y _) [.Call (.Name z _) [e] [] _] [] _ => glB sc y && (glB sc z && (decide (y = "len") && (decide (z = "set") && (plainE e && (a.ck T N gd).e sc fl e)))) | _ => false
  | .mt o a es => mkE fun sc fl x => match x with | .Call (.Attribute ea nm ap) l [] cp => decide (nm = o.nm) && ((ap.endLine == cp.line) && (superE ea && ((a.ck T N gd).e sc fl ea && ((es.ck T N gd).a sc fl l && (l.all plainE && decide (l.length < 29)))))) | _ => false
  | .dict0 => mkE fun _ _ x => match x with | .Dict [] [] _ => true | _ => false
  | .lc own g src cond elt => mkE fun sc fl x => match x with
    | .ListComp el [⟨tg, iter, ifs, 0⟩] scope _ => (src.ck T N gd).i sc fl tg iter && (setE iter && (blkC N sc scope (ownP N own) && ((g.chk N (rl scope sc) false).1 tg && ((g.slots.all fun j => decide (j ∈ own)) && ((cond.ck T N gd).s (rl scope sc) false ifs && (elt.ck T N gd).e (rl scope sc) false el)))))
    | _ => false
  | .lc2 own g src cond own1 g1 src1 cond1 elt => mkE fun sc fl x => match x with
    | .ListComp el [⟨tg, iter, ifs, 0⟩, ⟨tg1, iter1, ifs1, 0⟩] scope _ => (src.ck T N gd).i sc fl tg iter && (setE iter && (setE iter1 && (blkC N sc scope (ownP N own) && ((g.chk N (rl scope sc) false).1 tg && ((g1.chk N (rl scope sc) false).1 tg1 && ((g.slots.all fun j => decide (j ∈ own)) && ((g1.slots.all fun j => decide (j ∈ own1)) && ((own1.all fun j => decide (j ∈ own)) &&
      ((cond.ck T N gd).s (rl scope sc) false ifs && ((src1.ck T N gd).i (rl scope sc) false tg1 iter1 && ((cond1.ck T N gd).s (rl scope sc) false ifs1 && (elt.ck T N gd).e (rl scope sc) false el)))))))))))
    | _ => false
  | .wAny a => ⟨noE, noA, noE, noE, fun sc fl _ x => (a.ck T N gd).e sc fl x, noA⟩
  | .rg1 a => ⟨noE, noA, noE, noE, fun sc fl _ x => match x with | .Call (.Name y _) [e] [] _ => glB sc y && (decide (y = "range") && (plainE e && (a.ck T N gd).e sc fl e)) | _ => false, noA⟩
  | .rg2 a b => ⟨noE, noA, noE, noE, fun sc fl _ x => match x with | .Call (.Name y _) [e, e2] [] _ => glB sc y && (decide (y = "range") && (plainE e && (plainE e2 && ((a.ck T N gd).e sc fl e && (b.ck T N gd).e sc fl e2)))) | _ => false, noA⟩
  | .enu a => ⟨noE, noA, noE, noE, fun sc fl tg x => match tg, x with | .Tuple _ _ _, .Call (.Name y _) [e] [] _ => glB sc y && (decide (y = "enumerate") && (plainE e && (a.ck T N gd).e sc fl e)) | _, _ => false, noA⟩
/-! ### what holds of the written part -/
structure Fc (Y : Fix) (CV : Nat → Value) (F : Fns) (G : Nat → EV) (T : Tbl) (k : Nat) (X : Cx) : Prop where
  fn : ∀ f nm n, T.fn f = some (nm, n) → ∃ a fd ps, FnOk X.prog X.w X.K X.mg X.base (L2.CX X.prog X.w) k a fd ps (spF Y CV F f n) ∧ X.mg nm = some (.ref a) ∧ PySem.W.keepIn X.K (.ref a) = true ∧ Binds X.K fd ps []
  gl : ∀ i nm v, T.gl i = some (nm, v) → v = G i ∧ ∃ u x, X.mg nm = some u ∧ RelV x u ∧ ∀ ρ m H, R Y ρ m H v x
  bt : ∀ nm ∈ (["len", "all", "any", "sum", "min", "max", "sorted", "repr", "int", "list", "tuple", "str", "bool", "set", "isinstance", "range", "enumerate"] : List Str), X.mg nm = none
structure Cz (Y : Fix) (CV : Nat → Value) (F : Fns) (G : Nat → EV) (T : Tbl) (k : Nat) (gd : Bool) (X : Cx) (W : WX) (N : List Str) (sc : Scope) (fl : Bool) : Prop extends Ct X N sc fl where
  f : Fc Y CV F G T k X
  room : Room k X.A
  tk : Takes X W
  gd' : gd = true → X.A.guards = some []
theorem Cz.units {Y : Fix} {CV : Nat → Value} {F : Fns} {G : Nat → EV} {T : Tbl} {k : Nat} {gd : Bool} {X : Cx} {W : WX} {N : List Str} {sc : Scope} {fl : Bool} (C : Cz Y CV F G T k gd X W N sc fl) : X.A.units + 70 < cLine := by
  have := C.room.un
  omega
end Dz

namespace Dz
open PySem L2
section
variable {Y : Fix} {CV : Nat → Value} {F : Fns} {G : Nat → EV} {T : Tbl} {k : Nat} {gd : Bool} {N : List Str}
/-- what the text that a code is checked against promises -/
structure Snd (Y : Fix) (CV : Nat → Value) (F : Fns) (G : Nat → EV) (T : Tbl) (k : Nat) (gd : Bool) (N : List Str) (ck : Ck) (c : CE) : Prop where
  e : ∀ {X W sc fl x}, Cz Y CV F G T k gd X W N sc fl → ck.e sc fl x = true → PE X x (tE Y CV W c)
  a : ∀ {X W sc fl x}, Cz Y CV F G T k gd X W N sc fl → ck.a sc fl x = true → PA X x (tA Y CV W c)
  t : ∀ {X W sc fl x}, Cz Y CV F G T k gd X W N sc fl → ck.t sc fl x = true → PT X x (tT Y CV W c)
  w : ∀ {X W sc fl x}, Cz Y CV F G T k gd X W N sc fl → ck.w sc fl x = true → PW X x (tT Y CV W c)
  i : ∀ {X W sc fl tg x}, Cz Y CV F G T k gd X W N sc fl → ck.i sc fl tg x = true → PI X tg x (tW Y CV W c)
  s : ∀ {X W sc fl x}, Cz Y CV F G T k gd X W N sc fl → ck.s sc fl x = true → PTs X x (tT Y CV W c)
theorem snd_E {e : Scope → Bool → Expr → Bool} {c : CE} (h : ∀ {X W sc fl x}, Cz Y CV F G T k gd X W N sc fl → e sc fl x = true → PE X x (tE Y CV W c)) : Snd Y CV F G T k gd N (mkE e) c := by
  have t : ∀ {X W sc fl x}, Cz Y CV F G T k gd X W N sc fl → (truE x && e sc fl x) = true → PT X x (tT Y CV W c) := fun C q => by
    obtain ⟨q1, q2⟩ := Bool.and_eq_true_iff.mp q
    exact dt_val (h C q2) (tru_plain q1)
  refine ⟨h, fun _ q => (nomatch q), t, fun _ q => (nomatch q), fun _ q => (nomatch q), fun {X W sc fl es} C q => ?_⟩
  match es, q with
  | [x], q => exact pts_one (t C q)
theorem snd_T {e t : Scope → Bool → Expr → Bool} {c : CE} (h : ∀ {X W sc fl x}, Cz Y CV F G T k gd X W N sc fl → e sc fl x = true → PE X x (tE Y CV W c)) (ht : ∀ {X W sc fl x}, Cz Y CV F G T k gd X W N sc fl → t sc fl x = true → PT X x (tT Y CV W c)) : Snd Y CV F G T k gd N (mkT e t) c := by
  refine ⟨h, fun _ q => (nomatch q), ht, fun _ q => (nomatch q), fun _ q => (nomatch q), fun {X W sc fl es} C q => ?_⟩
  match es, q with
  | [x], q => exact pts_one (ht C q)
theorem gl_of {X : Cx} {W : WX} {sc : Scope} {fl : Bool} (C : Cz Y CV F G T k gd X W N sc fl) {x : Str} (h : glB sc x = true) : Gl X x ∧ (x == ("__debug__" : Str)) = false := by
  unfold glB at h
  split at h
  · rename_i q
    refine ⟨?_, by simpa using h⟩
    show X.env.scope.names.lookup x = _
    rw [C.s]; exact q
  · cases h
theorem vis_of {X : Cx} {W : WX} {sc : Scope} {fl : Bool} (C : Cz Y CV F G T k gd X W N sc fl) {i : Nat} {x : Str} (h : visB N sc i x = true) : X.N[i]? = some x ∧ Vis X.env.scope x ∧ (x == ("__debug__" : Str)) = false ∧ (x == ("__classdict__" : Str)) = false := by
  unfold visB at h
  obtain ⟨h1, h⟩ := Bool.and_eq_true_iff.mp h
  obtain ⟨h2, h⟩ := Bool.and_eq_true_iff.mp h
  obtain ⟨h3, h4⟩ := Bool.and_eq_true_iff.mp h
  rw [C.n]
  refine ⟨of_decide_eq_true h1, ?_, by simpa using h3, by simpa using h4⟩
  unfold Vis
  rw [C.s]
  split at h2
  · exact .inl (by assumption)
  · exact .inr (.inl (by assumption))
  · exact .inr (.inr (by assumption))
  · cases h2
theorem Cz.blk {X : Cx} {W : WX} {sc : Scope} {fl : Bool} (C : Cz Y CV F G T k gd X W N sc fl) (s : Shared) (H : Hp) (scope : Scope) (cl : List (Str × Addr)) (D : Addr) (fp : List Addr) : Cz Y CV F G T k gd (X.blk s H scope (compEnvC scope cl D X.env) fp) W0 N (rl scope sc) false where
  n := C.n
  s := by
    show relabel scope X.env = rl scope sc
    unfold relabel rl Env.kindOf
    rw [C.s]
  nd := C.nd
  calm := C.calm
  fn := fun z => nomatch z
  f := ⟨C.f.fn, C.f.gl, C.f.bt⟩
  room := C.room
  tk := takes0
  gd' := C.gd'
theorem ownP_snd (own : List Nat) : (ownP N own).map (·.2) = own := by
  unfold ownP
  rw [List.map_map]
  exact List.map_id own
theorem plainIx_of {b : Expr} (h : plainIxB b = true) : PlainIx b := by
  intro o i
  cases b <;> first | rfl | cases h
theorem pts_mono {X : Cx} {t t' : TT} {es : List Expr} (h : PTs X es t) (q : ∀ σ H Q, t' σ H Q → t σ H Q) : PTs X es t' := ⟨fun pins s σ H Q I p => h.run pins s σ H Q I (q σ H Q p)⟩
theorem nil_of_a {T : Tbl} {N : List Str} {gd : Bool} {F : Fns} {G : Nat → EV} {sc : Scope} {fl : Bool} : ∀ {c : Ec}, (c.ck T N gd).a sc fl [] = true → ∀ l h m, c.den F G l h m = .ok .nil h m := fun {c} q => by
  cases c with
  | nil => exact fun _ _ _ => rfl
  | _ => cases q
theorem snd (c : Ec) : Snd Y CV F G T k gd N (c.ck T N gd) (c.den F G) := by
  induction c with
  | var i =>
    refine snd_E fun {X W sc fl x} C q => ?_
    match x, q with
    | .Name y p, q =>
      obtain ⟨h1, h2, h3, h4⟩ := vis_of C q
      exact de_var i (pe_var h1 h2 h3 h4)
  | con v =>
    refine snd_E fun {X W sc fl x} C q => ?_
    match x, v, q with
    | .Constant (.int i) j p, .int n, q => cases of_decide_eq_true q; exact de_con pe_int fun _ _ _ => rfl
    | .Constant (.bool b) j p, .bl c, q => cases beq_iff_eq.mp q; exact de_con pe_bl fun _ _ _ => rfl
    | .Constant .none j p, .non, q => exact de_con pe_non fun _ _ _ => rfl
    | .Constant (.str z) j p, .str s, q => exact de_con pe_str fun _ _ _ => ⟨_, cdx_of (of_decide_eq_true q), by cases z; rfl⟩
  | glo n =>
    refine snd_E fun {X W sc fl x} C q => ?_
    match x, q with
    | .Name y p, q =>
      obtain ⟨h1, h2⟩ := Bool.and_eq_true_iff.mp q
      obtain ⟨g1, g2⟩ := gl_of C h1
      cases z : T.gl n with
      | none => rw [z] at h2; cases h2
      | some pr =>
        rw [z] at h2
        obtain ⟨nm, v⟩ := pr
        cases (of_decide_eq_true h2 : nm = y)
        obtain ⟨rfl, u, x, e1, e2, e3⟩ := C.f.gl n y v z
        exact de_con (pe_glob g1 e1 e2 g2) e3
  | nil => exact ⟨fun _ q => (nomatch q), fun {X W sc fl es} C q => by
      match es, q with
      | [], _ => exact da_nil, fun _ q => (nomatch q), fun _ q => (nomatch q), fun _ q => (nomatch q), fun _ q => (nomatch q)⟩
  | cons a b ia ib => exact ⟨fun _ q => (nomatch q), fun {X W sc fl es} C q => by
      match es, q with
      | e :: r, q =>
        obtain ⟨q1, q2⟩ := Bool.and_eq_true_iff.mp q
        obtain ⟨q0, q1⟩ := Bool.and_eq_true_iff.mp q1
        exact da_cons (ia.e C q1) (ib.a C q2) (star_plain q0), fun _ q => (nomatch q), fun _ q => (nomatch q), fun _ q => (nomatch q), fun _ q => (nomatch q)⟩
  | star a b ia ib => exact ⟨fun _ q => (nomatch q), fun {X W sc fl es} C q => by
      match es, q with
      | .Starred e p :: r, q =>
        obtain ⟨q1, q2⟩ := Bool.and_eq_true_iff.mp q
        exact da_star (ia.e C q1) (ib.a C q2), fun _ q => (nomatch q), fun _ q => (nomatch q), fun _ q => (nomatch q), fun _ q => (nomatch q)⟩
  | tup a ia =>
    refine snd_E fun {X W sc fl x} C q => ?_
    match x, q with
    | .Tuple es x1 p, q => exact de_tup (ia.a C q)
  | lst a ia =>
    refine snd_E fun {X W sc fl x} C q => ?_
    match x, q with
    | .List es p, q => exact de_lst (ia.a C q)
  | bin o a b ia ib =>
    refine snd_E fun {X W sc fl x} C q => ?_
    match x, q with
    | .BinOp ea op eb p, q =>
      obtain ⟨q0, q⟩ := Bool.and_eq_true_iff.mp q
      obtain ⟨q1, q2⟩ := Bool.and_eq_true_iff.mp q
      cases beq_iff_eq.mp q0
      obtain ⟨r, h1, h2⟩ := Bop.ok (Y := Y) (X := X) (CV := CV) (W := W) o
      exact de_bin h1 h2 (ia.e C q1) (ib.e C q2)
  | cmp o a b ia ib =>
    refine snd_T (fun {X W sc fl x} C q => ?_) fun {X W sc fl x} C q => ?_
    all_goals
      match x, q with
      | .Compare ea [op] [eb] p, q =>
        obtain ⟨q0, q⟩ := Bool.and_eq_true_iff.mp q
        obtain ⟨q1, q2⟩ := Bool.and_eq_true_iff.mp q
        obtain ⟨q3, q4⟩ := Bool.and_eq_true_iff.mp q0
        cases beq_iff_eq.mp q3
        obtain ⟨r, h1, h2⟩ := Cop.ok (Y := Y) (X := X) (CV := CV) (W := W) C.units o
        first
          | exact de_cmp h1 h2 (ia.e C q1) (ib.e C q2) (by simpa using q4)
          | exact dt_cmp h1 h2 (ia.e C q1) (ib.e C q2) (by simpa using q4)
  | chain o o2 a b c ia ib ic =>
    refine snd_T (fun {X W sc fl x} C q => ?_) fun {X W sc fl x} C q => ?_
    all_goals
      match x, q with
      | .Compare ea [op, op2] [eb, ec] p, q =>
        obtain ⟨q0, q⟩ := Bool.and_eq_true_iff.mp q
        obtain ⟨q1, q2⟩ := Bool.and_eq_true_iff.mp q
        obtain ⟨q2, q5⟩ := Bool.and_eq_true_iff.mp q2
        obtain ⟨q3, q4⟩ := Bool.and_eq_true_iff.mp q0
        obtain ⟨q3, q6⟩ := Bool.and_eq_true_iff.mp q3
        cases beq_iff_eq.mp q3
        cases beq_iff_eq.mp q6
        obtain ⟨r, h1, h2⟩ := Cop.ok (Y := Y) (X := X) (CV := CV) (W := W) C.units o
        obtain ⟨r', h1', h2'⟩ := Cop.ok (Y := Y) (X := X) (CV := CV) (W := W) C.units o2
        first
          | exact de_chain h1 h1' h2 h2' (ia.e C q1) (ib.e C q2) (ic.e C q5) (by simpa using q4)
          | exact dt_chain h1 h1' h2 h2' (ia.e C q1) (ib.e C q2) (ic.e C q5) (by simpa using q4)
  | and a b ia ib =>
    have w : ∀ {X W sc fl x}, Cz Y CV F G T k gd X W N sc fl → ((Ec.and a b).ck T N gd).w sc fl x = true → PW X x (tT Y CV W ((Ec.and a b).den F G)) := fun {X W sc fl x} C q => by
      match x, q with
      | .BoolOp .And (ea :: eb :: r) p, q =>
        obtain ⟨q1, q2⟩ := Bool.and_eq_true_iff.mp q
        exact dw_and (ia.t C q1) (ib.w C q2)
    refine ⟨fun {X W sc fl x} C q => ?_, fun _ q => (nomatch q), fun C q => (w C q).pt, w, fun _ q => (nomatch q), fun {X W sc fl es} C q => ?_⟩
    · match x, q with
      | .BoolOp .And (ea :: eb :: r) p, q =>
        obtain ⟨q1, q2⟩ := Bool.and_eq_true_iff.mp q
        exact de_and (ia.e C q1) (ib.e C q2)
    · match es, q with
      | [x], q => exact pts_one (w C q).pt
  | or a b ia ib =>
    have w : ∀ {X W sc fl x}, Cz Y CV F G T k gd X W N sc fl → ((Ec.or a b).ck T N gd).w sc fl x = true → PW X x (tT Y CV W ((Ec.or a b).den F G)) := fun {X W sc fl x} C q => by
      match x, q with
      | .BoolOp .Or (ea :: eb :: r) p, q =>
        obtain ⟨q1, q2⟩ := Bool.and_eq_true_iff.mp q
        exact dw_or (ia.t C q1) (ib.w C q2)
    refine ⟨fun {X W sc fl x} C q => ?_, fun _ q => (nomatch q), fun C q => (w C q).pt, w, fun _ q => (nomatch q), fun {X W sc fl es} C q => ?_⟩
    · match x, q with
      | .BoolOp .Or (ea :: eb :: r) p, q =>
        obtain ⟨q1, q2⟩ := Bool.and_eq_true_iff.mp q
        exact de_or (ia.e C q1) (ib.e C q2)
    · match es, q with
      | [x], q => exact pts_one (w C q).pt
  | one a ia =>
    have w : ∀ {X W sc fl x}, Cz Y CV F G T k gd X W N sc fl → ((Ec.one a).ck T N gd).w sc fl x = true → PW X x (tT Y CV W ((Ec.one a).den F G)) := fun {X W sc fl x} C q => by
      match x, q with
      | .BoolOp op [e] p, q => exact dw_one (ia.t C q)
    refine ⟨fun {X W sc fl x} C q => ?_, fun _ q => (nomatch q), fun {X W sc fl x} C q => ?_, w, fun _ q => (nomatch q), fun _ q => (nomatch q)⟩
    · match x, q with
      | .BoolOp op [e] p, q => exact de_one (ia.e C q)
    · match x, q with
      | .BoolOp op [e] p, q => exact (dw_one (ia.t C q)).pt
  | not a ia =>
    refine snd_T (fun {X W sc fl x} C q => ?_) fun {X W sc fl x} C q => ?_
    · match x, q with
      | .UnaryOp .Not e p, q => exact de_not (ia.e C q)
    · match x, q with
      | .UnaryOp .Not e p, q => exact dt_not (ia.t C q)
  | neg a ia =>
    refine snd_E fun {X W sc fl x} C q => ?_
    match x, q with
    | .UnaryOp .USub e p, q => exact de_un un_neg o_neg (ia.e C q)
  | ite c a b ic ia ib =>
    refine ⟨fun {X W sc fl x} C q => ?_, fun _ q => (nomatch q), fun _ q => (nomatch q), fun _ q => (nomatch q), fun _ q => (nomatch q), fun _ q => (nomatch q)⟩
    match x, q with
    | .IfExp ec ea eb p, q =>
      obtain ⟨q1, q2⟩ := Bool.and_eq_true_iff.mp q
      obtain ⟨q2, q3⟩ := Bool.and_eq_true_iff.mp q2
      exact de_if (ic.t C q1) (ia.e C q2) (ib.e C q3)
  | tru a ia =>
    have t : ∀ {X W sc fl x}, Cz Y CV F G T k gd X W N sc fl → (truE x && (a.ck T N gd).e sc fl x) = true → PT X x (tT Y CV W (eUn fTru (a.den F G))) := fun C q => by
      obtain ⟨q1, q2⟩ := Bool.and_eq_true_iff.mp q
      exact dt_tru (ia.e C q2) q1
    refine ⟨fun _ q => (nomatch q), fun _ q => (nomatch q), t, fun _ q => (nomatch q), fun _ q => (nomatch q), fun {X W sc fl es} C q => ?_⟩
    match es, q with
    | [x], q => exact pts_one (t C q)
  | yes =>
    refine ⟨fun _ q => (nomatch q), fun _ q => (nomatch q), fun _ q => (nomatch q), fun _ q => (nomatch q), fun _ q => (nomatch q), fun {X W sc fl es} C q => ?_⟩
    match es, q with
    | [], _ =>
      refine pts_mono pts_nil fun σ H Q ⟨l, h, m, ρ, s, lr, p⟩ => ?_
      obtain ⟨b, eb, q⟩ := post_ok s p
      cases eb; exact q
  | ix a b ia ib =>
    refine snd_E fun {X W sc fl x} C q => ?_
    match x, q with
    | .Subscript ea eb p, q =>
      obtain ⟨q0, q⟩ := Bool.and_eq_true_iff.mp q
      obtain ⟨q1, q2⟩ := Bool.and_eq_true_iff.mp q
      exact de_ixA (by have := C.units; omega) (ia.e C q1) (ib.e C q2) (plainIx_of q0)
  | sl a l h lo hi ia il ih =>
    refine snd_E fun {X W sc fl x} C q => ?_
    match x, q with
    | .Subscript ea (.Slice el eh none p2) p, q =>
      obtain ⟨q0, q⟩ := Bool.and_eq_true_iff.mp q
      obtain ⟨q1, q2⟩ := Bool.and_eq_true_iff.mp q
      obtain ⟨tl, pl, kl⟩ : ∃ tl, PO X el tl ∧ Prt Y CV W (ptC l (lo.den F G)) tl := by
        match el, l, q1 with
        | none, false, _ => exact ⟨_, po_none, prt_none⟩
        | some e, true, q => exact ⟨_, po_some (il.e C q), prt_some⟩
      obtain ⟨th, ph, kh⟩ : ∃ th, PO X eh th ∧ Prt Y CV W (ptC h (hi.den F G)) th := by
        match eh, h, q2 with
        | none, false, _ => exact ⟨_, po_none, prt_none⟩
        | some e, true, q => exact ⟨_, po_some (ih.e C q), prt_some⟩
      exact de_sl (ia.e C q0) pl ph kl kh
  | call f n es ie =>
    refine snd_E fun {X W sc fl x} C q => ?_
    match x, q with
    | .Call (.Name y p) l [] p2, q =>
      obtain ⟨h1, q⟩ := Bool.and_eq_true_iff.mp q
      obtain ⟨h2, q⟩ := Bool.and_eq_true_iff.mp q
      obtain ⟨h3, h4⟩ := Bool.and_eq_true_iff.mp q
      obtain ⟨g1, g2⟩ := gl_of C h1
      cases z : T.fn f with
      | none => rw [z] at h2; cases h2
      | some pr =>
        rw [z] at h2
        obtain ⟨nm, n'⟩ := pr
        obtain ⟨h5, h6⟩ := Bool.and_eq_true_iff.mp h2
        cases (of_decide_eq_true h5 : nm = y)
        cases (beq_iff_eq.mp h6 : n' = n)
        obtain ⟨a, fd, ps, f1, f2, f3, f4⟩ := C.f.fn f y n z
        exact de_call f1 C.tk C.room g1 f2 f3 f4 (ie.a C h3) g2 h4 (fun e => nil_of_a (by rw [e] at h3; exact h3))
  | bn o es ie =>
    refine snd_E fun {X W sc fl x} C q => ?_
    match x, q with
    | .Call (.Name y p) l [] p2, q =>
      obtain ⟨h1, q⟩ := Bool.and_eq_true_iff.mp q
      obtain ⟨h2, q⟩ := Bool.and_eq_true_iff.mp q
      obtain ⟨h3, q⟩ := Bool.and_eq_true_iff.mp q
      obtain ⟨h4, q⟩ := Bool.and_eq_true_iff.mp q
      obtain ⟨h5, h6⟩ := Bool.and_eq_true_iff.mp q
      cases (of_decide_eq_true h2 : y = o.nm)
      obtain ⟨g1, g2⟩ := gl_of C h1
      refine Bn.ok C.units C.calm (ie.a C h4) h5 (fun z => by rw [z] at h6; cases h6) o (fun z => ?_) g1 (C.f.bt _ ?_)
      · refine C.gd' ?_
        cases o with
        | repr => exact h3
        | _ => cases z
      · cases o <;> simp [Bn.nm]
  | isi t a ia =>
    refine snd_E fun {X W sc fl x} C q => ?_
    match x, q with
    | .Call (.Name y p) [e, .Name z p3] [] p2, q =>
      obtain ⟨h1, q⟩ := Bool.and_eq_true_iff.mp q
      obtain ⟨h2, q⟩ := Bool.and_eq_true_iff.mp q
      obtain ⟨h3, q⟩ := Bool.and_eq_true_iff.mp q
      obtain ⟨h4, q⟩ := Bool.and_eq_true_iff.mp q
      obtain ⟨h5, h6⟩ := Bool.and_eq_true_iff.mp q
      cases (of_decide_eq_true h3 : y = "isinstance")
      cases (of_decide_eq_true h4 : z = t.nm)
      obtain ⟨g1, _⟩ := gl_of C h1
      obtain ⟨g2, g3⟩ := gl_of C h2
      obtain ⟨Tn, t1, t2, t3, t4⟩ := Ty.ok t
      exact de_isi g1 (C.f.bt _ (by simp)) (ia.e C h6) (pe_bltn g2 (C.f.bt _ (by cases t <;> simp [Ty.nm])) t2 rfl t3 t4) t1 h5
  | lset a ia =>
    refine snd_E fun {X W sc fl x} C q => ?_
    match x, q with
    | .Call (.Name y p) [.Call (.Name z p3) [e] [] p4] [] p2, q =>
      obtain ⟨h1, q⟩ := Bool.and_eq_true_iff.mp q
      obtain ⟨h2, q⟩ := Bool.and_eq_true_iff.mp q
      obtain ⟨h3, q⟩ := Bool.and_eq_true_iff.mp q
      obtain ⟨h4, q⟩ := Bool.and_eq_true_iff.mp q
      obtain ⟨h5, h6⟩ := Bool.and_eq_true_iff.mp q
      cases (of_decide_eq_true h3 : y = "len")
      cases (of_decide_eq_true h4 : z = "set")
      exact pe_mono (pe_lenSet C.calm (gl_of C h1).1 (C.f.bt _ (by simp)) (gl_of C h2).1 (C.f.bt _ (by simp)) (ia.e C h6) (star_plain h5)) fun σ H Q t => tLenSet_of t
  | mt o a es ia ie =>
    refine snd_E fun {X W sc fl x} C q => ?_
    match x, q with
    | .Call (.Attribute ea nm ap) l [] cp, q =>
      obtain ⟨h1, q⟩ := Bool.and_eq_true_iff.mp q
      obtain ⟨h2, q⟩ := Bool.and_eq_true_iff.mp q
      obtain ⟨h3, q⟩ := Bool.and_eq_true_iff.mp q
      obtain ⟨h4, q⟩ := Bool.and_eq_true_iff.mp q
      obtain ⟨h5, q⟩ := Bool.and_eq_true_iff.mp q
      obtain ⟨h6, h7⟩ := Bool.and_eq_true_iff.mp q
      cases (of_decide_eq_true h1 : nm = o.nm)
      exact Mt.ok (ia.e C h4) (ie.a C h5) h3 h6 (of_decide_eq_true h7) h2 (fun e => nil_of_a (by rw [e] at h5; exact h5)) o
  | dict0 =>
    refine snd_E fun {X W sc fl x} C q => ?_
    match x, q with
    | .Dict [] [] p, _ => exact de_dict0
  | lc own g src cond elt is ic ie =>
    refine snd_E fun {X W sc fl x} C q => ?_
    match x, q with
    | .ListComp el [⟨tg, iter, ifs, 0⟩] scope p, q =>
      obtain ⟨h1, q⟩ := Bool.and_eq_true_iff.mp q
      obtain ⟨h2, q⟩ := Bool.and_eq_true_iff.mp q
      obtain ⟨h3, q⟩ := Bool.and_eq_true_iff.mp q
      obtain ⟨h4, q⟩ := Bool.and_eq_true_iff.mp q
      obtain ⟨h5, q⟩ := Bool.and_eq_true_iff.mp q
      obtain ⟨h6, h7⟩ := Bool.and_eq_true_iff.mp q
      have hb : BlkOk X.N X.env.scope scope (ownP N own) := by rw [C.n, C.s]; exact blkOk_by h3
      have hok := (gd_row g N (rl scope sc) false).1 tg h4
      have := pe_lc (pos := p) (g := (g.rd X.K).1) C.calm (by rw [C.n]; exact C.nd) (is.i (tg := tg) C h1) hb (fun s H D cl fp => ((gd_ok (C.blk s H scope cl D fp).toCt g).1 tg h4).1) (fun s H D cl fp => ic.s (C.blk s H scope cl D fp) h6) (fun s H D cl fp => ie.e (C.blk s H scope cl D fp) h7) (fold_plain h2)
      rw [ownP_snd] at this
      exact pe_mono this fun σ H Q t => te_lc hok (fun j hj => of_decide_eq_true (List.all_eq_true.mp h5 j hj)) t
  | lc2 own g src cond own1 g1 src1 cond1 elt is ic is1 ic1 ie =>
    refine snd_E fun {X W sc fl x} C q => ?_
    match x, q with
    | .ListComp el [⟨tg, iter, ifs, 0⟩, ⟨tg1, iter1, ifs1, 0⟩] scope p, q =>
      obtain ⟨h1, q⟩ := Bool.and_eq_true_iff.mp q
      obtain ⟨h2, q⟩ := Bool.and_eq_true_iff.mp q
      obtain ⟨h2b, q⟩ := Bool.and_eq_true_iff.mp q
      obtain ⟨h3, q⟩ := Bool.and_eq_true_iff.mp q
      obtain ⟨h4, q⟩ := Bool.and_eq_true_iff.mp q
      obtain ⟨h4b, q⟩ := Bool.and_eq_true_iff.mp q
      obtain ⟨h5, q⟩ := Bool.and_eq_true_iff.mp q
      obtain ⟨h5b, q⟩ := Bool.and_eq_true_iff.mp q
      obtain ⟨h5c, q⟩ := Bool.and_eq_true_iff.mp q
      obtain ⟨h6, q⟩ := Bool.and_eq_true_iff.mp q
      obtain ⟨h7, q⟩ := Bool.and_eq_true_iff.mp q
      obtain ⟨h8, h9⟩ := Bool.and_eq_true_iff.mp q
      have hb : BlkOk X.N X.env.scope scope (ownP N own) := by rw [C.n, C.s]; exact blkOk_by h3
      have hok := (gd_row g N (rl scope sc) false).1 tg h4
      have hok1 := (gd_row g1 N (rl scope sc) false).1 tg1 h4b
      have hsub : ∀ i ∈ own1, i ∈ (ownP N own).map (·.2) := fun i hi => by rw [ownP_snd]; exact of_decide_eq_true (List.all_eq_true.mp h5c i hi)
      have := pe_lc2 (pos := p) (g := (g.rd X.K).1) (g1 := (g1.rd X.K).1) C.calm (by rw [C.n]; exact C.nd) (is.i (tg := tg) C h1) hb hsub (fun s H D cl fp => ((gd_ok (C.blk s H scope cl D fp).toCt g).1 tg h4).1) (fun s H D cl fp => ic.s (C.blk s H scope cl D fp) h6)
        (fun s H D cl fp => is1.i (tg := tg1) (C.blk s H scope cl D fp) h7) (fun s H D cl fp => ((gd_ok (C.blk s H scope cl D fp).toCt g1).1 tg1 h4b).1) (fun s H D cl fp => ic1.s (C.blk s H scope cl D fp) h8) (fun s H D cl fp => ie.e (C.blk s H scope cl D fp) h9) (fold_plain h2) (fun _ => fold_plain h2b)
      rw [ownP_snd] at this
      exact pe_mono this fun σ H Q t => te_lc2 hok (fun j hj => of_decide_eq_true (List.all_eq_true.mp h5 j hj)) hok1 (fun j hj => of_decide_eq_true (List.all_eq_true.mp h5b j hj)) t
  | wAny a ia => exact ⟨fun _ q => (nomatch q), fun _ q => (nomatch q), fun _ q => (nomatch q), fun _ q => (nomatch q), fun C q => dp_any (ia.e C q), fun _ q => (nomatch q)⟩
  | rg1 a ia =>
    refine ⟨fun _ q => (nomatch q), fun _ q => (nomatch q), fun _ q => (nomatch q), fun _ q => (nomatch q), fun {X W sc fl tg x} C q => ?_, fun _ q => (nomatch q)⟩
    match x, q with
    | .Call (.Name y p) [e] [] p2, q =>
      obtain ⟨h1, q⟩ := Bool.and_eq_true_iff.mp q
      obtain ⟨h2, q⟩ := Bool.and_eq_true_iff.mp q
      obtain ⟨h3, h4⟩ := Bool.and_eq_true_iff.mp q
      cases (of_decide_eq_true h2 : y = "range")
      exact dp_rg1 (gl_of C h1).1 (C.f.bt _ (by simp)) h3 (ia.e C h4)
  | rg2 a b ia ib =>
    refine ⟨fun _ q => (nomatch q), fun _ q => (nomatch q), fun _ q => (nomatch q), fun _ q => (nomatch q), fun {X W sc fl tg x} C q => ?_, fun _ q => (nomatch q)⟩
    match x, q with
    | .Call (.Name y p) [e, e2] [] p2, q =>
      obtain ⟨h1, q⟩ := Bool.and_eq_true_iff.mp q
      obtain ⟨h2, q⟩ := Bool.and_eq_true_iff.mp q
      obtain ⟨h3, q⟩ := Bool.and_eq_true_iff.mp q
      obtain ⟨h4, q⟩ := Bool.and_eq_true_iff.mp q
      obtain ⟨h5, h6⟩ := Bool.and_eq_true_iff.mp q
      cases (of_decide_eq_true h2 : y = "range")
      exact dp_rg2 (gl_of C h1).1 (C.f.bt _ (by simp)) h3 h4 (ia.e C h5) (ib.e C h6)
  | enu a ia =>
    refine ⟨fun _ q => (nomatch q), fun _ q => (nomatch q), fun _ q => (nomatch q), fun _ q => (nomatch q), fun {X W sc fl tg x} C q => ?_, fun _ q => (nomatch q)⟩
    match tg, x, q with
    | .Tuple elts kk tp, .Call (.Name y p) [e] [] p2, q =>
      obtain ⟨h1, q⟩ := Bool.and_eq_true_iff.mp q
      obtain ⟨h2, q⟩ := Bool.and_eq_true_iff.mp q
      obtain ⟨h3, h4⟩ := Bool.and_eq_true_iff.mp q
      cases (of_decide_eq_true h2 : y = "enumerate")
      exact dp_enu (gl_of C h1).1 (C.f.bt _ (by simp)) h3 (ia.e C h4)
end
end Dz

namespace Dz
open PySem L2
/-! ### statements as data -/
inductive Sc where
  | nx | seq (a b : Sc) | asg (i : Nat) (e : Ec) | asgLc (i : Nat) (own : List Nat) (g : Gd) (src cond elt : Ec) | asgLc2 (i : Nat) (own : List Nat) (g : Gd) (src cond : Ec) (own1 : List Nat) (g1 : Gd) (src1 cond1 elt : Ec)
  | asgG (g : Gd) (e : Ec) | par (i j : Nat) (e : Ec) | iff (c : Ec) (a b : Sc) | ret (e : Ec) | retN | ex (e : Ec) | brk | cnt | raise (k : Nat)
  | for (g : Gd) (src : Ec) (b : Sc) | whl (c : Ec) (b : Sc) | dset (d k v : Ec) | tri (c : Nat) (b s : Sc) | lock (i : Nat) (s : Sc)
noncomputable def Sc.den (F : Fns) (G : Nat → EV) (M : Nat → Nat → Option Bool) (c : Sc) : CS := Sc.rec (motive := fun _ => CS) sNx (fun _ _ a b => sSeq a b) (fun i e => sAsg i (e.den F G)) (fun i own g src cond elt => sAsg i (eLc own g (src.den F G) (cond.den F G) (elt.den F G)))
  (fun i own g src cond own1 g1 src1 cond1 elt => sAsg i (eLc2 own g (src.den F G) (cond.den F G) own1 g1 (src1.den F G) (cond1.den F G) (elt.den F G)))
  (fun g e => sAsgG g (e.den F G)) (fun i j e => sPar [i, j] (e.den F G)) (fun c _ _ a b => sIf (c.den F G) a b) (fun e => sRet (e.den F G)) sRetN (fun e => sEx (e.den F G)) sBrk sCnt sRaise
  (fun g src _ b => sFor g (src.den F G) b) (fun c _ b => sWh (c.den F G) b) (fun d k v => sDSet (d.den F G) (k.den F G) (v.den F G)) (fun c _ _ b s => sTry (fun x => M x c) b s) (fun i _ s => sLock i s) c
def locB (N : List Str) (sc : Scope) (i : Nat) (x : Str) : Bool := decide (N[i]? = some x) && (match sc.names.lookup x with | some .local => true | _ => false)
def fnB (sc : Scope) : Bool := match sc.kind with | .function => true | _ => false
structure Sk where
  s : Stmt → Bool
  l : List Stmt → Bool
def noL : List Stmt → Bool := fun _ => false
/-- one statement: alone in a suite, too -/
def mkS (f : Stmt → Bool) : Sk := ⟨f, noL⟩
def suiteB (N : List Str) (sc : Scope) (c : Sc) (l : List Stmt) : Bool := match c, l with
  | .seq (.asg i (.con v)) .nx, [.Assign [.Name x _] e _] => locB N sc i x && (conB v e && compE e)
  | _, _ => false
def Sc.ck (T : Tbl) (N : List Str) (gd : Bool) (sc : Scope) : Sc → Sk
  | .nx => ⟨fun st => match st with | .Pass _ => true | _ => false, fun l => l.isEmpty⟩
  | .seq a b => ⟨fun _ => false, fun l => match l with | st :: r => (a.ck T N gd sc).s st && (b.ck T N gd sc).l r | [] => false⟩
  | .asg i e => mkS fun st => match st with | .Assign [.Name x _] v _ => slotE N sc true i x && (compE v && (e.ck T N gd).e sc true v) | _ => false
  | .asgLc i own g src cond elt => mkS fun st => match st with | .Assign [.Name x py] (.ListComp el gs scope p) _ => locB N sc i x && (fnB sc && ((py.line == p.line) && (!(scope.names.any fun (n, k) => n == x && (k == .local || k == .cell)) && ((Ec.lc own g src cond elt).ck T N gd).e sc true (.ListComp el gs scope p)))) | _ => false
  | .asgLc2 i own g src cond own1 g1 src1 cond1 elt => mkS fun st => match st with | .Assign [.Name x py] (.ListComp el gs scope p) _ => locB N sc i x && (fnB sc && ((py.line == p.line) && (!(scope.names.any fun (n, k) => n == x && (k == .local || k == .cell)) && ((Ec.lc2 own g src cond own1 g1 src1 cond1 elt).ck T N gd).e sc true (.ListComp el gs scope p)))) | _ => false
  | .asgG g e => mkS fun st => match st with | .Assign [.Tuple ts kt tp] v _ => (g.chk N sc true).1 (.Tuple ts kt tp) && (compE v && ((match v with | .Tuple _ _ _ => false | _ => true) && (e.ck T N gd).e sc true v)) | _ => false
  | .par i j e => mkS fun st => match st with
    | .Assign [.Tuple [.Name x px, .Name y py] _ _] (.Tuple [a, b] _ _) _ => locB N sc i x && (locB N sc j y && (fnB sc && ((py.line == px.line) && (!(x == y) && (plainE a && (plainE b && (!([a, b].all (foldedForSure 8)) && (!([a, b].all (constantsAlone 8)) && (decide (i ≠ j) && (e.ck T N gd).a sc true [a, b])))))))))
    | _ => false
  | .iff c a b => mkS fun st => match st with | .If e x y _ => (c.ck T N gd).t sc true e && ((a.ck T N gd sc).l x && (b.ck T N gd sc).l y) | _ => false
  | .ret e => mkS fun st => match st with | .Return (some x) _ => (e.ck T N gd).e sc true x | _ => false
  | .retN => mkS fun st => match st with | .Return none _ => true | _ => false
  | .ex e => mkS fun st => match st with | .Expr x _ => compE x && (e.ck T N gd).e sc true x | _ => false
  | .brk => mkS fun st => match st with | .Break _ => true | _ => false
  | .cnt => mkS fun st => match st with | .Continue _ => true | _ => false
  | .raise k => mkS fun st => match st with | .Raise (some (.Call (.Name x _) [.Constant (.str _) _ _] [] _)) none _ => glB sc x && (match T.ex k with | some y => decide (y = x) | none => false) | _ => false
  | .for g src b => mkS fun st => match st with | .For tg iter body [] _ => (g.chk N sc true).1 tg && (setE iter && ((src.ck T N gd).i sc true tg iter && (b.ck T N gd sc).l body)) | _ => false
  | .whl c b => mkS fun st => match st with | .While e body [] _ => (c.ck T N gd).t sc true e && (b.ck T N gd sc).l body | _ => false
  | .dset d k v => mkS fun st => match st with | .Assign [.Subscript ed ek _] ev _ => compE ev && ((d.ck T N gd).e sc true ed && ((k.ck T N gd).e sc true ek && (v.ck T N gd).e sc true ev)) | _ => false
  | .tri c b s => mkS fun st => match st with | .Try body [.ExceptHandler (some (.Name x _)) none (b0 :: r) _] [] [] _ => glB sc x && ((match T.ex c with | some y => decide (y = x) | none => false) && ((b.ck T N gd sc).l body && suiteB N sc s (b0 :: r))) | _ => false
  | .lock i s => mkS fun st => (s.ck T N gd sc).s st
/-! ### what holds -/
structure Cs (Y : Fix) (CV : Nat → Value) (F : Fns) (G : Nat → EV) (T : Tbl) (k : Nat) (gd : Bool) (X : Cx) (W : WX) (N : List Str) (sc : Scope) : Prop extends Cz Y CV F G T k gd X W N sc true where
  st : X.stack = X.env :: X.outer
  fr : X.env.frame = some X.env.locals
  own : PassesOwn (model X.prog X.w) X.A X.env X.xe
  ex : ∀ c nm, T.ex c = some nm → ∃ C, CV c = .ref C ∧ X.mg nm = some (.ref C) ∧ PySem.W.excIn X.K C [.type "ValueError", .type "Exception", .type "BaseException", .type "object"] "ValueError.__new__" = true ∧ PySem.W.keepIn X.K (.ref C) = true ∧ Raises X (.ref C)
  em : ∀ c d b, T.em c d = some b → PySem.W.exmOne X.K (CV c) (CV d) = some b
section
variable {Y : Fix} {CV : Nat → Value} {F : Fns} {G : Nat → EV} {T : Tbl} {k : Nat} {gd : Bool} {N : List Str} {sc : Scope}
theorem locB_ok {X : Cx} {W : WX} (C : Cz Y CV F G T k gd X W N sc true) {i : Nat} {x : Str} (h : locB N sc i x = true) : X.N[i]? = some x ∧ X.env.scope.names.lookup x = some .local := by
  obtain ⟨h1, h2⟩ := Bool.and_eq_true_iff.mp h
  rw [C.n, C.s]
  refine ⟨of_decide_eq_true h1, ?_⟩
  split at h2
  · assumption
  · cases h2
theorem fnB_ok {X : Cx} {W : WX} (C : Cz Y CV F G T k gd X W N sc true) (h : fnB sc = true) : X.env.scope.kind = .function := by
  rw [C.s]
  unfold fnB at h
  split at h
  · assumption
  · cases h
theorem par_names {env : Env} {x y : Str} {px py pt pt2 : Pos} {kt k2} {a b : Expr} (hk : env.scope.kind = .function) (hx : env.scope.names.lookup x = some .local) (hy : env.scope.names.lookup y = some .local) (hl : (py.line == px.line) = true) (hxy : (x == y) = false) (ha : plainE a = true) (hb : plainE b = true)
    (hf : [a, b].all (foldedForSure 8) = false) (hc : [a, b].all (constantsAlone 8) = false) : swappedStores [.Tuple [.Name x px, .Name y py] kt pt] (.Tuple [a, b] k2 pt2) env = pure (some [x, y]) := by
  have kx : env.kindOf x = some .local := hx
  have ky : env.kindOf y = some .local := hy
  have hbk : env.blockKind = .function := by unfold Env.blockKind; rw [hk]; rfl
  have hst : ∀ e : Expr, plainE e = true → (match e with | .Starred .. => true | _ => false) = false := fun e h => by cases e <;> first | rfl | cases h
  have hst2 : ([a, b].any fun | .Starred .. => true | _ => false) = false := by
    rw [List.any_cons, List.any_cons, List.any_nil, hst a ha, hst b hb]; rfl
  unfold swappedStores
  simp only [hbk, hst2, kx, ky, hf, hc, Expr.pos, List.head?, List.filterMap, hl, Option.map, Option.getD]
  have hyx : (y == x) = false := by
    rw [beq_eq_false_iff_ne] at hxy ⊢
    exact fun e => hxy e.symm
  simp [List.eraseDups, List.eraseDupsBy, List.eraseDupsBy.loop, hxy, hyx]
  intro z
  rcases z with z | z
  · cases a <;> first | exact absurd z Bool.false_ne_true | cases ha
  · cases b <;> first | exact absurd z Bool.false_ne_true | cases hb
theorem ps_asgMono {X : Cx} {st : Stmt} {t t' : TE} {g : TG} (h : PS X st (tAsg t g)) (q : ∀ σ H Q, t' σ H Q → t σ H Q) : PS X st (tAsg t' g) := ps_mono h fun D σ H p => q _ _ _ p
theorem ff_of {b : Bool} (h : (!b) = true) : b = false := by
  cases b with
  | false => rfl
  | true => cases h
structure SndS (Y : Fix) (CV : Nat → Value) (F : Fns) (G : Nat → EV) (T : Tbl) (k : Nat) (gd : Bool) (N : List Str) (sc : Scope) (ck : Sk) (c : CS) : Prop where
  s : ∀ {X W st}, Cs Y CV F G T k gd X W N sc → ck.s st = true → PS X st (tS Y CV W c)
  l : ∀ {X W l}, Cs Y CV F G T k gd X W N sc → ck.l l = true → PSs X l (tS Y CV W c)
theorem snd_S {f : Stmt → Bool} {c : CS} (h : ∀ {X W st}, Cs Y CV F G T k gd X W N sc → f st = true → PS X st (tS Y CV W c)) : SndS Y CV F G T k gd N sc (mkS f) c := ⟨h, fun _ q => (nomatch q)⟩
theorem Cs.tr {X : Cx} {W W' : WX} (C : Cs Y CV F G T k gd X W N sc) {pn : List (Addr × Obj)} {xe : Value → Shared → Prop} (tk : Takes (X.tr pn xe) W') (own : PassesOwn (model X.prog X.w) X.A X.env xe) : Cs Y CV F G T k gd (X.tr pn xe) W' N sc where
  n := C.n
  s := C.s
  nd := C.nd
  calm := C.calm
  fn := C.fn
  f := ⟨C.f.fn, C.f.gl, C.f.bt⟩
  room := C.room
  tk := tk
  gd' := C.gd'
  st := C.st
  fr := C.fr
  own := own
  ex := C.ex
  em := C.em
theorem con_of {X : Cx} {W : WX} {v : EV} {e : Expr} (q : conB v e = true) : PE X e (tE Y CV W (eCon v)) := by
  match e, v, q with
  | .Constant (.int i) j p, .int n, q => cases of_decide_eq_true q; exact de_con pe_int fun _ _ _ => rfl
  | .Constant (.bool b) j p, .bl c, q => cases beq_iff_eq.mp q; exact de_con pe_bl fun _ _ _ => rfl
  | .Constant .none j p, .non, q => exact de_con pe_non fun _ _ _ => rfl
  | .Constant (.str z) j p, .str s, q => exact de_con pe_str fun _ _ _ => ⟨_, cdx_of (of_decide_eq_true q), by cases z; rfl⟩
theorem suite_of {X : Cx} {W : WX} (C : Cs Y CV F G T k gd X W N sc) {M : Nat → Nat → Option Bool} : ∀ {c : Sc} {l : List Stmt}, suiteB N sc c l = true → ∀ (a : Addr) (pn : List (Addr × Obj)), PSs (X.suite a pn) l (tS Y CV W0 (c.den F G M)) := fun {c l} q a pn => by
  unfold suiteB at q
  split at q
  · rename_i i v x p1 e p2
    obtain ⟨h1, q⟩ := Bool.and_eq_true_iff.mp q
    obtain ⟨h2, h3⟩ := Bool.and_eq_true_iff.mp q
    obtain ⟨g1, g2⟩ := locB_ok C.toCz h1
    refine dss_cons (ds_set (ps_set ?_ g1 (.inl g2) (con_of h2) (swaps_plain h3) (.inr g2))) dss_nil
    show X.N.Nodup
    rw [C.n]; exact C.nd
  · cases q
theorem lc_inv {own : List Nat} {g : Gd} {src cond elt : Ec} {fl : Bool} {el : Expr} {gs : List Comprehension} {scope : Scope} {p : Pos} (q : ((Ec.lc own g src cond elt).ck T N gd).e sc fl (.ListComp el gs scope p) = true) : ∃ tg iter ifs, gs = [⟨tg, iter, ifs, 0⟩] ∧
    ((src.ck T N gd).i sc fl tg iter && (setE iter && (blkC N sc scope (ownP N own) && ((g.chk N (rl scope sc) false).1 tg && ((g.slots.all fun j => decide (j ∈ own)) && ((cond.ck T N gd).s (rl scope sc) false ifs && (elt.ck T N gd).e (rl scope sc) false el)))))) = true := by
  match gs, q with
  | [⟨tg, iter, ifs, 0⟩], q => exact ⟨tg, iter, ifs, rfl, q⟩
theorem lc2_inv {own : List Nat} {g : Gd} {src cond : Ec} {own1 : List Nat} {g1 : Gd} {src1 cond1 elt : Ec} {fl : Bool} {el : Expr} {gs : List Comprehension} {scope : Scope} {p : Pos} (q : ((Ec.lc2 own g src cond own1 g1 src1 cond1 elt).ck T N gd).e sc fl (.ListComp el gs scope p) = true) : ∃ tg iter ifs tg1 iter1 ifs1, gs = [⟨tg, iter, ifs, 0⟩, ⟨tg1, iter1, ifs1, 0⟩] ∧
    ((src.ck T N gd).i sc fl tg iter && (setE iter && (setE iter1 && (blkC N sc scope (ownP N own) && ((g.chk N (rl scope sc) false).1 tg && ((g1.chk N (rl scope sc) false).1 tg1 && ((g.slots.all fun j => decide (j ∈ own)) && ((g1.slots.all fun j => decide (j ∈ own1)) && ((own1.all fun j => decide (j ∈ own)) &&
      ((cond.ck T N gd).s (rl scope sc) false ifs && ((src1.ck T N gd).i (rl scope sc) false tg1 iter1 && ((cond1.ck T N gd).s (rl scope sc) false ifs1 && (elt.ck T N gd).e (rl scope sc) false el)))))))))))) = true := by
  match gs, q with
  | [⟨tg, iter, ifs, 0⟩, ⟨tg1, iter1, ifs1, 0⟩], q => exact ⟨tg, iter, ifs, tg1, iter1, ifs1, rfl, q⟩
theorem sndS (c : Sc) : SndS Y CV F G T k gd N sc (c.ck T N gd sc) (c.den F G T.em) := by
  induction c with
  | nx =>
    refine ⟨fun {X W st} C q => ?_, fun {X W l} C q => ?_⟩
    · match st, q with
      | .Pass p, _ => exact ds_pass
    · match l, q with
      | [], _ => exact dss_nil
  | seq a b ia ib =>
    refine ⟨fun _ q => (nomatch q), fun {X W l} C q => ?_⟩
    match l, q with
    | st :: r, q =>
      obtain ⟨h1, h2⟩ := Bool.and_eq_true_iff.mp q
      exact dss_cons (ia.s C h1) (ib.l C h2)
  | asg i e =>
    refine snd_S fun {X W st} C q => ?_
    try dsimp only at q
    split at q
    rotate_left
    · cases q
    rename_i x p v p2
    obtain ⟨h1, q⟩ := Bool.and_eq_true_iff.mp q
    obtain ⟨h2, h3⟩ := Bool.and_eq_true_iff.mp q
    obtain ⟨g1, g2, g3⟩ := slotE_ok C.toCt h1
    exact ds_set (ps_set (by rw [C.n]; exact C.nd) g1 g2 ((snd e).e C.toCz h3) (swaps_plain h2) g3)
  | asgLc i own g src cond elt =>
    refine snd_S fun {X W st} C q => ?_
    try dsimp only at q
    split at q
    rotate_left
    · cases q
    rename_i x py el gs scope p p2
    obtain ⟨l1, q⟩ := Bool.and_eq_true_iff.mp q
    obtain ⟨l2, q⟩ := Bool.and_eq_true_iff.mp q
    obtain ⟨l3, q⟩ := Bool.and_eq_true_iff.mp q
    obtain ⟨l4, q⟩ := Bool.and_eq_true_iff.mp q
    obtain ⟨tg, iter, ifs, rfl, q⟩ := lc_inv q
    obtain ⟨h1, q⟩ := Bool.and_eq_true_iff.mp q
    obtain ⟨h2, q⟩ := Bool.and_eq_true_iff.mp q
    obtain ⟨h3, q⟩ := Bool.and_eq_true_iff.mp q
    obtain ⟨h4, q⟩ := Bool.and_eq_true_iff.mp q
    obtain ⟨h5, q⟩ := Bool.and_eq_true_iff.mp q
    obtain ⟨h6, h7⟩ := Bool.and_eq_true_iff.mp q
    obtain ⟨g1, g2⟩ := locB_ok C.toCz l1
    have hb : BlkOk X.N X.env.scope scope (ownP N own) := by rw [C.n, C.s]; exact blkOk_by h3
    have hok := (gd_row g N (rl scope sc) false).1 tg h4
    have Cb := fun s H D cl fp => C.toCz.blk s H scope cl D fp
    have := ps_setLc (spos := p2) (g := (g.rd X.K).1) C.calm (by rw [C.n]; exact C.nd) g1 g2 (sw_true (l := p2.line) (elt := el) (gs := [⟨tg, iter, ifs, 0⟩]) (fnB_ok C.toCz l2) g2 l3 (by simpa using l4)) ((snd src).i (tg := tg) C.toCz h1) hb (fun s H D cl fp => ((gd_ok (Cb s H D cl fp).toCt g).1 tg h4).1) (fun s H D cl fp => (snd cond).s (Cb s H D cl fp) h6) (fun s H D cl fp => (snd elt).e (Cb s H D cl fp) h7) (fold_plain h2)
    rw [ownP_snd] at this
    exact ds_set (ps_asgMono this fun σ H Q t => te_lc hok (fun j hj => of_decide_eq_true (List.all_eq_true.mp h5 j hj)) t)
  | asgLc2 i own g src cond own1 g1 src1 cond1 elt =>
    refine snd_S fun {X W st} C q => ?_
    try dsimp only at q
    split at q
    rotate_left
    · cases q
    rename_i x py el gs scope p p2
    obtain ⟨l1, q⟩ := Bool.and_eq_true_iff.mp q
    obtain ⟨l2, q⟩ := Bool.and_eq_true_iff.mp q
    obtain ⟨l3, q⟩ := Bool.and_eq_true_iff.mp q
    obtain ⟨l4, q⟩ := Bool.and_eq_true_iff.mp q
    obtain ⟨tg, iter, ifs, tg1, iter1, ifs1, rfl, q⟩ := lc2_inv q
    obtain ⟨h1, q⟩ := Bool.and_eq_true_iff.mp q
    obtain ⟨h2, q⟩ := Bool.and_eq_true_iff.mp q
    obtain ⟨h2b, q⟩ := Bool.and_eq_true_iff.mp q
    obtain ⟨h3, q⟩ := Bool.and_eq_true_iff.mp q
    obtain ⟨h4, q⟩ := Bool.and_eq_true_iff.mp q
    obtain ⟨h4b, q⟩ := Bool.and_eq_true_iff.mp q
    obtain ⟨h5, q⟩ := Bool.and_eq_true_iff.mp q
    obtain ⟨h5b, q⟩ := Bool.and_eq_true_iff.mp q
    obtain ⟨h5c, q⟩ := Bool.and_eq_true_iff.mp q
    obtain ⟨h6, q⟩ := Bool.and_eq_true_iff.mp q
    obtain ⟨h7, q⟩ := Bool.and_eq_true_iff.mp q
    obtain ⟨h8, h9⟩ := Bool.and_eq_true_iff.mp q
    obtain ⟨b1, b2⟩ := locB_ok C.toCz l1
    have hb : BlkOk X.N X.env.scope scope (ownP N own) := by rw [C.n, C.s]; exact blkOk_by h3
    have hok := (gd_row g N (rl scope sc) false).1 tg h4
    have hok1 := (gd_row g1 N (rl scope sc) false).1 tg1 h4b
    have hsub : ∀ i ∈ own1, i ∈ (ownP N own).map (·.2) := fun i hi => by rw [ownP_snd]; exact of_decide_eq_true (List.all_eq_true.mp h5c i hi)
    have Cb := fun s H D cl fp => C.toCz.blk s H scope cl D fp
    have := ps_setLc2 (spos := p2) (g := (g.rd X.K).1) (g1 := (g1.rd X.K).1) C.calm (by rw [C.n]; exact C.nd) b1 b2 (sw_true (l := p2.line) (elt := el) (gs := [⟨tg, iter, ifs, 0⟩, ⟨tg1, iter1, ifs1, 0⟩]) (fnB_ok C.toCz l2) b2 l3 (by simpa using l4)) ((snd src).i (tg := tg) C.toCz h1) hb hsub (fun s H D cl fp => ((gd_ok (Cb s H D cl fp).toCt g).1 tg h4).1) (fun s H D cl fp => (snd cond).s (Cb s H D cl fp) h6)
      (fun s H D cl fp => (snd src1).i (tg := tg1) (Cb s H D cl fp) h7) (fun s H D cl fp => ((gd_ok (Cb s H D cl fp).toCt g1).1 tg1 h4b).1) (fun s H D cl fp => (snd cond1).s (Cb s H D cl fp) h8) (fun s H D cl fp => (snd elt).e (Cb s H D cl fp) h9) (fold_plain h2) (fun _ => fold_plain h2b)
    rw [ownP_snd] at this
    exact ds_set (ps_asgMono this fun σ H Q t => te_lc2 hok (fun j hj => of_decide_eq_true (List.all_eq_true.mp h5 j hj)) hok1 (fun j hj => of_decide_eq_true (List.all_eq_true.mp h5b j hj)) t)
  | asgG g e =>
    refine snd_S fun {X W st} C q => ?_
    try dsimp only at q
    split at q
    rotate_left
    · cases q
    rename_i ts kt tp v p2
    obtain ⟨h1, q⟩ := Bool.and_eq_true_iff.mp q
    obtain ⟨h2, q⟩ := Bool.and_eq_true_iff.mp q
    obtain ⟨h3, h4⟩ := Bool.and_eq_true_iff.mp q
    refine ds_asg ((gd_row g N sc true).1 _ h1) (ps_asg ((snd e).e C.toCz h4) ((gd_ok C.toCt g).1 _ h1).1 (show swapsWith v (some (.Tuple ts kt tp)) p2.line X.env = pure false from swaps_plain h2) ?_)
    cases v <;> first | rfl | cases h3
  | par i j e =>
    refine snd_S fun {X W st} C q => ?_
    try dsimp only at q
    split at q
    rotate_left
    · cases q
    rename_i x px y py kt tp a b k2 p3 p2
    obtain ⟨h1, q⟩ := Bool.and_eq_true_iff.mp q
    obtain ⟨h2, q⟩ := Bool.and_eq_true_iff.mp q
    obtain ⟨h3, q⟩ := Bool.and_eq_true_iff.mp q
    obtain ⟨h4, q⟩ := Bool.and_eq_true_iff.mp q
    obtain ⟨h5, q⟩ := Bool.and_eq_true_iff.mp q
    obtain ⟨h6, q⟩ := Bool.and_eq_true_iff.mp q
    obtain ⟨h7, q⟩ := Bool.and_eq_true_iff.mp q
    obtain ⟨h8, q⟩ := Bool.and_eq_true_iff.mp q
    obtain ⟨h9, q⟩ := Bool.and_eq_true_iff.mp q
    obtain ⟨h10, h11⟩ := Bool.and_eq_true_iff.mp q
    obtain ⟨b1, b2⟩ := locB_ok C.toCz h1
    obtain ⟨b3, b4⟩ := locB_ok C.toCz h2
    exact ds_par (ps_par C.calm (by rw [C.n]; exact C.nd) b1 b3 (of_decide_eq_true h10) b2 b4 ((snd e).a C.toCz h11) (par_names (fnB_ok C.toCz h3) b2 b4 h4 (by simpa using h5) h6 h7 (ff_of h8) (ff_of h9)))
  | iff c a b ia ib =>
    refine snd_S fun {X W st} C q => ?_
    try dsimp only at q
    split at q
    rotate_left
    · cases q
    rename_i e x y p
    obtain ⟨h1, q⟩ := Bool.and_eq_true_iff.mp q
    obtain ⟨h2, h3⟩ := Bool.and_eq_true_iff.mp q
    exact ds_if ((snd c).t C.toCz h1) (ia.l C h2) (ib.l C h3)
  | ret e =>
    refine snd_S fun {X W st} C q => ?_
    try dsimp only at q
    split at q
    rotate_left
    · cases q
    rename_i x p
    exact ds_ret ((snd e).e C.toCz q)
  | retN =>
    refine snd_S fun {X W st} C q => ?_
    try dsimp only at q
    split at q
    rotate_left
    · cases q
    rename_i p
    exact ds_retN
  | ex e =>
    refine snd_S fun {X W st} C q => ?_
    try dsimp only at q
    split at q
    rotate_left
    · cases q
    rename_i x p
    obtain ⟨h1, h2⟩ := Bool.and_eq_true_iff.mp q
    exact ds_expr (ps_expr ((snd e).e C.toCz h2) (swaps_plain h1))
  | brk =>
    refine snd_S fun {X W st} C q => ?_
    try dsimp only at q
    split at q
    rotate_left
    · cases q
    rename_i p
    exact ds_break
  | cnt =>
    refine snd_S fun {X W st} C q => ?_
    try dsimp only at q
    split at q
    rotate_left
    · cases q
    rename_i p
    exact ds_continue
  | raise c =>
    refine snd_S fun {X W st} C q => ?_
    try dsimp only at q
    split at q
    rotate_left
    · cases q
    rename_i x p m j p2 p3 p4
    obtain ⟨h1, h2⟩ := Bool.and_eq_true_iff.mp q
    cases z : T.ex c with
    | none => rw [z] at h2; cases h2
    | some y =>
      rw [z] at h2
      cases (of_decide_eq_true h2 : y = x)
      obtain ⟨g1, g2⟩ := gl_of C.toCz h1
      obtain ⟨D, e1, e2, e3, e4, e5⟩ := C.ex c x z
      exact ds_raise e1 (ps_raise C.calm C.tk (pmk_own PySem.F.excBase_ValueError e3 e2 e4 e5 g1 g2))
  | «for» g src b ib =>
    refine snd_S fun {X W st} C q => ?_
    try dsimp only at q
    split at q
    rotate_left
    · cases q
    rename_i tg iter body p
    obtain ⟨h1, q⟩ := Bool.and_eq_true_iff.mp q
    obtain ⟨h2, q⟩ := Bool.and_eq_true_iff.mp q
    obtain ⟨h3, h4⟩ := Bool.and_eq_true_iff.mp q
    exact ds_for ((gd_row g N sc true).1 _ h1) C.own C.calm ((snd src).i C.toCz h3) ((gd_ok C.toCt g).1 _ h1).1 (ib.l C h4) (fold_plain h2)
  | whl c b ib =>
    refine snd_S fun {X W st} C q => ?_
    try dsimp only at q
    split at q
    rotate_left
    · cases q
    rename_i e body p
    obtain ⟨h1, h2⟩ := Bool.and_eq_true_iff.mp q
    exact ds_while C.own ((snd c).t C.toCz h1) (ib.l C h2)
  | dset d kk v =>
    refine snd_S fun {X W st} C q => ?_
    try dsimp only at q
    split at q
    rotate_left
    · cases q
    rename_i ed ek p ev p2
    obtain ⟨h1, q⟩ := Bool.and_eq_true_iff.mp q
    obtain ⟨h2, q⟩ := Bool.and_eq_true_iff.mp q
    obtain ⟨h3, h4⟩ := Bool.and_eq_true_iff.mp q
    exact ds_dset (by have := C.toCz.units; omega) ((snd d).e C.toCz h2) ((snd kk).e C.toCz h3) ((snd v).e C.toCz h4) (swaps_plain h1)
  | tri c b s ib is =>
    refine snd_S fun {X W st} C q => ?_
    try dsimp only at q
    split at q
    rotate_left
    · cases q
    rename_i body x np b0 r hp p
    obtain ⟨h1, q⟩ := Bool.and_eq_true_iff.mp q
    obtain ⟨h2, q⟩ := Bool.and_eq_true_iff.mp q
    obtain ⟨h3, h4⟩ := Bool.and_eq_true_iff.mp q
    cases z : T.ex c with
    | none => rw [z] at h2; cases h2
    | some y =>
      rw [z] at h2
      cases (of_decide_eq_true h2 : y = x)
      obtain ⟨g1, g2⟩ := gl_of C.toCz h1
      obtain ⟨D, e1, e2, _⟩ := C.ex c x z
      refine ds_try (C := .ref D) (fun d bb hd => by rw [← e1]; exact C.em d c bb hd) (ps_try_only (tb := fun W => tS Y CV W (b.den F G T.em)) (ts := fun _ _ _ => tS Y CV W0 (s.den F G T.em)) C.st C.fr ⟨g1, g2, .inl e2⟩ C.tk (fun W' pn xe tk own => ib.l (C.tr tk own) h3) fun a oe cls d pn _ _ => suite_of C h4 a _)
  | lock i s is => exact snd_S fun {X W st} C q => ds_lock (is.s C q)
end
end Dz

namespace Dz
open PySem PySem.Spec PyProof.Rows L2
/-! a def's promise where no container is being shown (what repr asks of the surroundings) -/
structure FnG (P : Program) (w : World) (K : PySem.W.Frag) (mg : Str → Option Value) (base : Heap) (CX : CXT) (k : Nat) (f : Addr) (fd : FuncData) (ps : List Str) (sp : Sp) : Prop where
  len : ∀ vs H Q E, sp vs H Q E → vs.length = ps.length
  run : ∀ (A : Around) (outer : List Env) (s : Shared) (H : Hp) (args : Args) (us : List Value) (vs : List V) (Q : VK) (E : XK), Room k A → A.guards = some [] → Env0 P w K mg base A outer s H → BindsTo s fd args (ps.zip us) → Vals vs us → sp vs H Q E →
    codeAny (model P w) A (.call (.ref f) args) (CR CX outer P w H s Q E) s
theorem guards_deeper {A : Around} {env : Env} (h : A.guards = some []) : (A.deeper env).guards = some [] := h
theorem fnG_of {x qual : Str} {st : Stmt} {f : Addr} {fd : FuncData} {N ps : List Str} {k : Nat} {sp : Sp} {P : Program} {w : World} {K : PySem.W.Frag} {mg : Str → Option Value} {base : Heap} (F : Fun K x qual st f fd) (S : FnScope N ps (defScope st)) (len : ∀ vs H Q E, sp vs H Q E → vs.length = ps.length)
    (hbody : ∀ (cdv : Value) (A : Around) (outer : List Env) (s : Shared) (H : Hp) (vs : List V) (Q : VK) (E : XK), Room k (A.deeper (envOfC qual (defScope st) s.heap.objs.size f cdv)) → A.guards = some [] → sp vs H Q E →
      ∃ t, PSs (cxOf (L2.CX P w) P w K mg base N qual (defScope st) f cdv A outer s H E) (defBody st) t ∧ t { nx := fun _ H' => Q .non H', rt := Q } (start N vs) H) : FnG P w K mg base (L2.CX P w) (k + 1) f fd ps sp := by
  obtain ⟨oc, od, kV, doc, pm, an, cdv, ct, osl, rfl, lk, hcd⟩ := F.ex
  refine ⟨len, fun A outer s H args us vs Q E hr hg e0 hb r hsp => ?_⟩
  have up : ∀ b o, base.get? b = some o → s.heap.get? b = some o := fun b o e => (e0.bs b o e).1
  have KX : K.In s.heap := e0.mod.kin.keeps up
  refine codeAny_call_function hr.depth (KX _ _ lk) rfl S.co S.gen rfl (PySem.W.codeRec_of KX hcd) (hb _ _ _ _ ?_)
  refine wpAny_newFunctionEnv_cells S.kind (fun ⟨n, v⟩ hy => (S.par n (List.of_mem_zip hy).1).imp id fun q => ⟨q, PySem.W.cellsFrom_some _ _ _ (.inl q)⟩) fun env he s1 x => ?_
  subst he
  refine ⟨(e0.mod.nolimit.keeps up).keeps x.toInCall.keep, codeAny_func ?_⟩
  obtain ⟨t, ht, hq⟩ := hbody cdv A outer s H vs Q E (hr.deeper _) hg hsp
  refine wpAny_mono (ht.run [] s1 (start N vs) H _ (inv_start S hr.hd e0 (len _ _ _ _ hsp) r x) hq) (fun fl s' hs => ?_) fun e s' hs => hs
  cases fl with
  | ret u =>
    obtain ⟨v, σ', H', J, rv, q⟩ := hs
    exact ⟨v, H', J.os, J.bare, J.base, J.hok, rv, q⟩
  | next =>
    obtain ⟨σ', H', J, q⟩ := hs
    exact ⟨V.non, H', J.os, J.bare, J.base, J.hok, rfl, q⟩
  | brk => exact hs.elim fun _ hs => hs.elim fun _ hs => hs.2.elim
  | cont => exact hs.elim fun _ hs => hs.elim fun _ hs => hs.2.elim
/-- the script is tracked, where it is none of the module's own objects; nothing else is -/
def scriptH (K : PySem.W.Frag) (a : Addr) (vs : List Value) (ns : List Int) : Hp := fun b => if b = a ∧ K.lookup a = none then some (.frz { cls := .type "list", data := .seq vs.toArray } (.lst (ns.map V.int))) else none
theorem scriptH_some {K : PySem.W.Frag} {a : Addr} {vs : List Value} {ns : List Int} {b : Addr} {u : HO} (h : scriptH K a vs ns b = some u) : b = a ∧ K.lookup a = none ∧ u = .frz { cls := .type "list", data := .seq vs.toArray } (.lst (ns.map V.int)) := by
  unfold scriptH at h
  split at h
  · rename_i c; cases h; exact ⟨c.1, c.2, rfl⟩
  · cases h
theorem law_callG {P : Program} {w : World} {K : PySem.W.Frag} {mg mb : Str → Option Value} {k : Nat} {fa a : Addr} {fd : FuncData} {x : Str} {sp : Sp} {s₁ : Shared} {vs : List Value} {ns : List Int}
    (KX : K.In s₁.heap) (hns : s₁.heap.Ns mainGlobals mg) (hb : s₁.heap.Ns builtinsNs mb) (hbb : ∀ x : Str, x ≠ "__name__" → mb x = bootBuiltins x) (hlim : s₁.heap.NoLimit) (hg : s₁.gens = #[])
    (ha : s₁.heap.get? a = some { cls := .type "list", data := .seq vs.toArray }) (hi : IntsAre vs ns) (hl : ns.length ≤ sizeLine) (hr : Room k callerA)
    (F : ∀ base : Heap, K.In base → base.Ns mainGlobals mg → FnG P w K mg base (L2.CX P w) k fa fd [x] sp) (hbind : ∀ (s : Shared) (u : Value), BindsTo s fd ⟨[u], []⟩ [(x, u)])
    (hsp : ∀ H : Hp, Only H → SqL K H a (ns.map V.int) → sp [.ref a] H (fun v _ => v = .bl true) fun _ _ _ => False) :
    codeAny (model P w) callerA (.call (.ref fa) ⟨[.ref a], []⟩) (fun r s' => r = .ok (.ret (.bool true)) ∧ OldK s₁.heap s'.heap ∧ s'.os = s₁.os ∧ AllBare s'.gens) s₁ := by
  have rv := vals_ints hi
  have lenV := hi.length
  let H : Hp := scriptH K a vs ns
  have hO : Only H := fun b => by
    cases q : H b with
    | none => exact .inl rfl
    | some u => obtain ⟨_, _, e⟩ := scriptH_some q; exact .inr ⟨_, _, congrArg some e⟩
  have hS : SqL K H a (ns.map V.int) := by
    cases hk : K.lookup a with
    | none => exact .inl (.inr ⟨_, if_pos ⟨rfl, hk⟩⟩)
    | some o =>
      have e := KX a o hk
      rw [ha] at e
      cases e
      exact .inr ⟨_, vs.toArray, _, hk, rfl, rfl, rfl, by rw [List.size_toArray, lenV]; exact hl, by simpa using rv⟩
  have hok : HOk P w H s₁.heap := fun b u z => by
    obtain ⟨rfl, _, rfl⟩ := scriptH_some z
    exact ⟨ha, by rw [List.length_map]; exact hl, vs, _, rv, ha⟩
  -- what is not tracked is the base's
  have old : ∀ {b : Addr} {o : Obj}, s₁.heap.get? b = some o → H b = none → (hidT s₁.heap H).get? b = some o := fun e n => hidT_get e n
  have nsK : ∀ {b : Addr} {m : Str → Option Value}, s₁.heap.Ns b m → (hidT s₁.heap H).Ns b m := fun {b m} ⟨o, es, ep, e, d, r⟩ => by
    refine ⟨o, es, ep, old e ?_, d, r⟩
    cases q : H b with
    | none => rfl
    | some u =>
      obtain ⟨rfl, _, _⟩ := scriptH_some q
      rw [ha] at e
      cases e
      cases (show Data.seq vs.toArray _ = Data.dict es ep from d)
  have kb : K.In (hidT s₁.heap H) := fun b o e => by
    refine old (KX b o e) ?_
    cases q : H b with
    | none => rfl
    | some u =>
      obtain ⟨rfl, n, _⟩ := scriptH_some q
      rw [n] at e; cases e
  have hM : Mod K mg (hidT s₁.heap H) := ⟨kb, nsK hns, ⟨mb, nsK hb, hbb⟩, hlim.elim fun mc h => ⟨mc, nsK h.1, h.2⟩⟩
  have e0 : Env0 P w K mg (hidT s₁.heap H) callerA [] s₁ H := ⟨rfl, hM, fun b o e => of_hidT e, Nat.le_of_eq (hidT_size _ _), trivial, fun b hb => absurd (show b ∈ ([] : List Addr) from hb) (by simp), hok, .of_eq hg⟩
  refine codeAny_mono ((F _ kb (nsK hns)).run callerA [] s₁ H ⟨[.ref a], []⟩ [.ref a] [.ref a] _ _ hr rfl e0 (hbind s₁ (.ref a)) (.cons rfl .nil) (hsp H hO hS)) fun r s' h => ?_
  cases r with
  | error e =>
    obtain ⟨_, _, _, _, _, _, _, _, _, _, _, _, z⟩ := h
    exact z.elim
  | ok fl =>
    cases fl with
    | ret u =>
      obtain ⟨v, H', os, bare, un, hok', r', q⟩ := h
      obtain rfl : v = .bl true := q
      obtain rfl : u = Value.bool true := r'
      refine ⟨rfl, OldK.of_keep fun b o e => ?_, os, bare⟩
      cases q : H b with
      | none => exact un.keep b o e q (by intro z; exact absurd (show b ∈ ([] : List Addr) from z) (by simp)) (by simp)
      | some u =>
        obtain ⟨rfl, n, rfl⟩ := scriptH_some q
        have z2 := (hok' b _ (un.frzs b _ _ q)).1
        rw [ha] at e
        cases e
        exact z2
    | _ => exact False.elim h
/-- a law: as L2's end of the head, the promise in such surroundings -/
theorem walk_ofG {l : PySem.W.OpenLaw} {n k : Nat} {q : Program} {loose : List Str} {XP : (Str → Option Value) → Heap → Prop} {YP : World → Heap → Prop} {d : DefRec} {x : Str}
    (hn : l.most = some n) (hn2 : n ≤ sizeLine) (hdf : d.params.defaults = []) (hr : Room k callerA)
    (F : ∀ (w : World) (mg : Str → Option Value) (fa : Addr) (h : Heap), YP w h → h.Ns mainGlobals mg → mg d.name = some (.ref fa) →
      ∃ (K : PySem.W.Frag) (fd : FuncData) (sp : Sp), K.In h ∧ (∀ (s : Shared) (u : Value), BindsTo s fd ⟨[u], []⟩ [(x, u)]) ∧
        (∀ (H : Hp) (a : Addr) (ns : List Int), ns.length ≤ n → Only H → SqL K H a (ns.map V.int) → sp [.ref a] H (fun v _ => v = .bl true) fun _ _ _ => False) ∧
        ∀ base : Heap, K.In base → base.Ns mainGlobals mg → FnG l.prog w K mg base (L2.CX l.prog w) k fa fd [x] sp) :
    PySem.W.WalkO q loose XP YP l.row.toRowW d [] (fun f vs => PySem.call f vs) := by
  refine Att.attach_call hn hdf fun w s₀ s₁ mg mb fa o pm cd doc a vs ns G Y ho hd hcd hmg hobj hints hlen hg => ?_
  obtain ⟨K, fd, sp, KX, hb, hsp, hF⟩ := F w mg fa _ Y G.T.g hmg
  exact law_callG KX G.T.g G.T.b G.T.builtins G.T.nolimit hg hobj hints (Nat.le_trans hlen hn2) hr hF hb (fun H hO hS => hsp H a ns hlen hO hS)
end Dz

namespace Dz
open PySem L2
/-! ### the defs of a program -/
structure FnD where
  nm : Str
  ps : List Str
  N : List Str
  pad : Nat
  st : Stmt
  code : Sc
noncomputable def nthD (l : List FnD) : Nat → (FnD → RE) → RE := List.rec (motive := fun _ => Nat → (FnD → RE) → RE) (fun _ _ => .bad) (fun d _ ih n k => Nat.rec (motive := fun _ => RE) (k d) (fun j _ => ih j k) n) l
theorem nthD_eq : ∀ (l : List FnD) (i : Nat) (k : FnD → RE) (d : FnD), l[i]? = some d → nthD l i k = k d
  | [], _, _, _, h => nomatch h
  | x :: l, 0, k, d, h => by cases h; rfl
  | x :: l, i + 1, k, d, h => nthD_eq l i k d h
noncomputable def nthG (l : List (Str × EV)) : Nat → EV := List.rec (motive := fun _ => Nat → EV) (fun _ => .non) (fun d _ ih n => Nat.rec (motive := fun _ => EV) d.2 (fun j _ => ih j) n) l
theorem nthG_eq : ∀ (l : List (Str × EV)) (i : Nat) (d : Str × EV), l[i]? = some d → nthG l i = d.2
  | [], _, _, h => nomatch h
  | x :: l, 0, d, h => by cases h; rfl
  | x :: l, i + 1, d, h => nthG_eq l i d h
noncomputable def Fk (fns : List FnD) (G : Nat → EV) (M : Nat → Nat → Option Bool) (k : Nat) : Fns := Nat.rec (motive := fun _ => Fns) (fun _ _ _ _ => .bad) (fun _ F i xs h m => nthD fns i fun d => mkFn (pads d.pad) (d.code.den F G M) xs h m) k
noncomputable def tbl (fns : List FnD) (gls : List (Str × EV)) (exs : List Str) (M : Nat → Nat → Option Bool) : Tbl where
  fn i := (fns[i]?).map fun d => (d.nm, d.ps.length)
  gl i := gls[i]?
  ex i := exs[i]?
  em := M
def scB (N ps : List Str) (sc : Scope) : Bool := (match sc.kind with | .function => true | _ => false) && (!sc.isCoroutine && (!sc.isGenerator && (decide N.Nodup && (decide (N.take ps.length = ps) && ((ps.all fun x => match sc.names.lookup x with | some .local => true | some .cell => true | _ => false) && (sc.names.all fun y => match y.2 with | .free => false | _ => true))))))
theorem scB_ok {N ps : List Str} {sc : Scope} (h : scB N ps sc = true) : FnScope N ps sc := by
  obtain ⟨h1, h⟩ := Bool.and_eq_true_iff.mp h
  obtain ⟨h2, h⟩ := Bool.and_eq_true_iff.mp h
  obtain ⟨h3, h⟩ := Bool.and_eq_true_iff.mp h
  obtain ⟨h4, h⟩ := Bool.and_eq_true_iff.mp h
  obtain ⟨h5, h⟩ := Bool.and_eq_true_iff.mp h
  obtain ⟨h6, h7⟩ := Bool.and_eq_true_iff.mp h
  refine ⟨?_, by simpa using h2, by simpa using h3, of_decide_eq_true h4, of_decide_eq_true h5, fun x hx => ?_, fun y hy z => ?_⟩
  · split at h1
    · assumption
    · cases h1
  · have := List.all_eq_true.mp h6 x hx
    split at this
    · exact .inl (by assumption)
    · exact .inr (by assumption)
    · cases this
  · have := List.all_eq_true.mp h7 y hy
    rw [z] at this; cases this
def FnD.okB (T : Tbl) (gd : Bool) (d : FnD) : Bool := scB d.N d.ps (defScope d.st) && (Nat.beq d.pad (d.N.length - d.ps.length) && (d.code.ck T d.N gd (defScope d.st)).l (defBody d.st))
theorem FnD.ok {T : Tbl} {gd : Bool} {d : FnD} (h : d.okB T gd = true) : FnScope d.N d.ps (defScope d.st) ∧ d.pad = d.N.length - d.ps.length ∧ (d.code.ck T d.N gd (defScope d.st)).l (defBody d.st) = true := by
  obtain ⟨h1, h⟩ := Bool.and_eq_true_iff.mp h
  obtain ⟨h2, h3⟩ := Bool.and_eq_true_iff.mp h
  exact ⟨scB_ok h1, Nat.eq_of_beq_eq_true h2, h3⟩
def btn : List Str := ["len", "all", "any", "sum", "min", "max", "sorted", "repr", "int", "list", "tuple", "str", "bool", "set", "isinstance", "range", "enumerate"]
/-- what stands behind the top -/
structure Wr (K : PySem.W.Frag) (mg : Str → Option Value) (CV : Nat → Value) (fns : List FnD) (gls : List (Str × EV)) (exs : List Str) (M : Nat → Nat → Option Bool) : Prop where
  fn : ∀ d ∈ fns, ∃ a fd, Fun K d.nm d.nm d.st a fd ∧ mg d.nm = some (.ref a) ∧ Binds K fd d.ps []
  gl : ∀ p ∈ gls, ∃ u x, mg p.1 = some u ∧ RelV x u ∧ ∀ (Y : Fix) ρ m H, R Y ρ m H p.2 x
  bt : ∀ nm ∈ btn, mg nm = none
  ex : ∀ c nm, exs[c]? = some nm → ∃ C, CV c = .ref C ∧ mg nm = some (.ref C) ∧ PySem.W.excIn K C [.type "ValueError", .type "Exception", .type "BaseException", .type "object"] "ValueError.__new__" = true ∧ PySem.W.keepIn K (.ref C) = true ∧ PySem.W.subIn K (.ref C) (.type "BaseException") = some true ∧ PySem.W.typeIn K (.ref C) = some (.type "type")
  em : ∀ c d b, M c d = some b → PySem.W.exmOne K (CV c) (CV d) = some b
section
variable {P : Program} {w : World} {K : PySem.W.Frag} {mg : Str → Option Value} {base : Heap} {CV : Nat → Value} {fns : List FnD} {gls : List (Str × EV)} {exs : List Str} {M : Nat → Nat → Option Bool}
/-- the context of a def's body -/
theorem cs_of {Y : Fix} {k : Nat} {gd : Bool} (Wp : Wr K mg CV fns gls exs M) {N ps : List Str} {qual : Str} {scope : Scope} {f : Addr} {cdv : Value} {A : Around} {outer : List Env} {s : Shared} {H : Hp} {E : XK} (Sc : FnScope N ps scope)
    (fn : ∀ i nm n, (tbl fns gls exs M).fn i = some (nm, n) → ∃ a fd ps, FnOk P w K mg base (L2.CX P w) k a fd ps (spF Y CV (Fk fns (nthG gls) M k) i n) ∧ mg nm = some (.ref a) ∧ PySem.W.keepIn K (.ref a) = true ∧ Binds K fd ps [])
    (hr : Room k (A.deeper (PyProof.Rows.envOfC qual scope s.heap.objs.size f cdv))) (hg : gd = true → A.guards = some []) :
    Cs Y CV (Fk fns (nthG gls) M k) (nthG gls) (tbl fns gls exs M) k gd (cxOf (L2.CX P w) P w K mg base N qual scope f cdv A outer s H E) (fun c d _ H => E c d H) N scope where
  n := rfl
  s := rfl
  nd := Sc.nd
  calm := rfl
  fn := fun _ _ => rfl
  f := ⟨fn, fun i nm v h => by
    have h' : gls[i]? = some (nm, v) := h
    obtain ⟨u, x, e1, e2, e3⟩ := Wp.gl _ (List.mem_of_getElem? h')
    exact ⟨(nthG_eq gls i _ h').symm, u, x, e1, e2, e3 Y⟩, Wp.bt⟩
  room := hr
  tk := takes_of rfl rfl rfl rfl
  gd' := hg
  st := rfl
  fr := rfl
  own := passes_of rfl
  ex := fun c nm h => by
    obtain ⟨C, e1, e2, e3, e4, e5, e6⟩ := Wp.ex c nm h
    exact ⟨C, e1, e2, e3, e4, raises_own e5 e6⟩
  em := Wp.em
theorem okAll {Y : Fix} (Wp : Wr K mg CV fns gls exs M) (hok : ∀ d ∈ fns, d.okB (tbl fns gls exs M) false = true) : ∀ k i nm n, (tbl fns gls exs M).fn i = some (nm, n) →
    ∃ a fd ps, FnOk P w K mg base (L2.CX P w) k a fd ps (spF Y CV (Fk fns (nthG gls) M k) i n) ∧ mg nm = some (.ref a) ∧ PySem.W.keepIn K (.ref a) = true ∧ Binds K fd ps [] := by
  intro k
  induction k with
  | zero =>
    intro i nm n h
    have h' : (fns[i]?).map (fun d => (d.nm, d.ps.length)) = some (nm, n) := h
    cases z : fns[i]? with
    | none => rw [z] at h'; cases h'
    | some d =>
      rw [z] at h'
      cases h'
      obtain ⟨a, fd, Fu, hm, hb⟩ := Wp.fn d (List.mem_of_getElem? z)
      exact ⟨a, fd, d.ps, ok_zero fun _ _ _ => rfl, hm, Fu.kp, hb⟩
  | succ k ih =>
    intro i nm n h
    have h' : (fns[i]?).map (fun d => (d.nm, d.ps.length)) = some (nm, n) := h
    cases z : fns[i]? with
    | none => rw [z] at h'; cases h'
    | some d =>
      rw [z] at h'
      cases h'
      have hd := List.mem_of_getElem? z
      obtain ⟨a, fd, Fu, hm, hb⟩ := Wp.fn d hd
      obtain ⟨h1, h2, h3⟩ := FnD.ok (hok d hd)
      refine ⟨a, fd, d.ps, ?_, hm, Fu.kp, hb⟩
      refine Fu.okX h1 (fun vs H Q E h => h.1) (fun cdv A outer s H vs Q E hr h => ⟨_, (sndS (F := Fk fns (nthG gls) M k) (G := nthG gls) (T := tbl fns gls exs M) d.code).l (cs_of (Y := Y) (gd := false) (E := E) (H := H) (outer := outer) Wp h1 ih hr (fun z => nomatch z)) h3, ?_⟩)
      refine ok_body (f := a) (cdv := cdv) (A := A) (outer := outer) (s := s) (qual := d.nm) (scope := defScope d.st) h.1 (fun xs hh m => ?_) h
      show nthD fns i (fun d => mkFn (pads d.pad) (d.code.den (Fk fns (nthG gls) M k) (nthG gls) M) xs hh m) = _
      rw [nthD_eq fns i _ d z, h2]
      rfl
end
end Dz

set_option maxHeartbeats 0
namespace K02
open PySem L2 Dz
def top (i : Nat) : Stmt := PySem.Challenge.pw_broodcounts_k02_trees_of_a_size.main.body.getD i (.Pass ⟨0, 0, 0, 0⟩)
def c_is_name : Sc := .seq (.iff (.or (.not (.isi .str (.var 0))) (.one (.not (.chain .le .le (.con (.int 1)) (.bn .len (.cons (.var 0) .nil)) (.glo 0))))) (.seq (.ret (.con (.bl false))) .nx) .nx) (.seq (.ret (.bn .all (.cons (.lc [1] (.nm 1) (.wAny (.var 0)) .yes (.chain .le .le (.con (.str (.cons (.ch 97) .nil))) (.var 1) (.con (.str (.cons (.ch 122) .nil))))) .nil))) .nx)
def c_is_number : Sc := .seq (.iff (.or (.not (.isi .int (.var 0))) (.one (.isi .bool (.var 0)))) (.seq (.ret (.con (.bl false))) .nx) .nx) (.seq (.ret (.and (.cmp .le (.var 1) (.var 0)) (.one (.or (.cmp .is (.var 2) (.con (.non))) (.one (.cmp .le (.var 0) (.var 2))))))) .nx)
def c_is_signs : Sc := .seq (.iff (.or (.not (.isi .list (.var 0))) (.one (.not (.chain .le .le (.con (.int 1)) (.bn .len (.cons (.var 0) .nil)) (.glo 1))))) (.seq (.ret (.con (.bl false))) .nx) .nx) (.seq (.ret (.and (.bn .all (.cons (.lc [1] (.nm 1) (.wAny (.var 0)) .yes (.call 0 1 (.cons (.var 1) .nil))) .nil)) (.one (.cmp .eq (.lset (.var 0)) (.bn .len (.cons (.var 0) .nil)))))) .nx)
def c_check_signs : Sc := .seq (.iff (.not (.call 2 1 (.cons (.var 0) .nil))) (.seq (.raise 2) .nx) .nx) .nx
def c_numbers_of_trees : Sc := .seq (.asg 2 (.lst (.cons (.con (.int 0)) .nil))) (.seq (.asg 3 (.lst (.cons (.con (.int 1)) .nil))) (.seq (.asg 4 (.lst (.cons (.con (.int 0)) .nil))) (.seq (.for (.nm 5) (.rg2 (.con (.int 1)) (.bin .add (.var 1) (.con (.int 1)))) (.seq (.ex (.mt .append (.var 2) (.cons (.bin .mul (.var 0) (.ix (.var 3) (.bin .sub (.var 5) (.con (.int 1))))) .nil))) (.seq (.ex (.mt .append (.var 4) (.cons (.bn .sum (.cons (.lc [6] (.nm 6) (.rg2 (.con (.int 1)) (.bin .add (.var 5) (.con (.int 1)))) (.cmp .eq (.bin .mod (.var 5) (.var 6)) (.con (.int 0))) (.bin .mul (.var 6) (.ix (.var 2) (.var 6)))) .nil)) .nil))) (.seq (.ex (.mt .append (.var 3) (.cons (.bin .fdiv (.bn .sum (.cons (.lc [6] (.nm 6) (.rg2 (.con (.int 1)) (.bin .add (.var 5) (.con (.int 1)))) .yes (.bin .mul (.ix (.var 4) (.var 6)) (.ix (.var 3) (.bin .sub (.var 5) (.var 6))))) .nil)) (.var 5)) .nil))) .nx)))) (.seq (.ret (.var 2)) .nx))))
def c_has_few : Sc := .seq (.ret (.cmp .le (.ix (.call 4 2 (.cons (.bn .len (.cons (.var 0) .nil)) (.cons (.var 1) .nil))) (.var 1)) (.glo 3))) .nx
def c_check_few : Sc := .seq (.iff (.not (.call 5 2 (.cons (.var 0) (.cons (.var 1) .nil)))) (.seq (.raise 3) .nx) .nx) .nx
def c_trees_of_size : Sc := .seq (.ex (.call 3 1 (.cons (.var 0) .nil))) (.seq (.iff (.not (.call 1 3 (.cons (.var 1) (.cons (.con (.int 1)) (.cons (.glo 2) .nil))))) (.seq (.raise 1) .nx) .nx) (.seq (.ex (.call 6 2 (.cons (.var 0) (.cons (.var 1) .nil)))) (.seq (.ret (.lc [2, 3, 4] (.tup (.cons (.nm 2) (.cons (.nm 3) (.cons (.nm 4) .nil)))) (.wAny (.call 8 2 (.cons (.var 0) (.cons (.var 1) .nil)))) (.cmp .eq (.var 2) (.var 1)) (.var 3))) .nx)))
def c_numbered_trees : Sc := .seq (.asg 2 (.lst .nil)) (.seq (.asg 3 (.lst (.cons (.lst (.cons (.tup (.cons (.tup .nil) (.cons (.tup .nil) .nil))) .nil)) .nil))) (.seq (.for (.nm 4) (.rg2 (.con (.int 1)) (.bin .add (.var 1) (.con (.int 1)))) (.seq (.asg 5 (.bn .sorted (.cons (.ix (.var 3) (.bin .sub (.var 4) (.con (.int 1)))) .nil))) (.seq (.asg 2 (.bin .add (.var 2) (.lc2 [6, 7, 8] (.nm 6) (.wAny (.bn .sorted (.cons (.var 0) .nil))) .yes [7, 8] (.tup (.cons (.nm 7) (.cons (.nm 8) .nil))) (.wAny (.var 5)) .yes (.tup (.cons (.var 4) (.cons (.tup (.cons (.var 6) (.star (.var 7) .nil))) (.cons (.var 8) .nil))))))) (.seq (.iff (.cmp .lt (.var 4) (.var 1)) (.seq (.ex (.mt .append (.var 3) (.cons (.call 9 2 (.cons (.var 3) (.cons (.var 2) .nil))) .nil))) .nx) .nx) .nx)))) (.seq (.ret (.var 2)) .nx)))
def c__longer_rows : Sc := .seq (.asg 2 (.bn .len (.cons (.var 0) .nil))) (.seq (.ret (.lc2 [3, 4, 5, 6, 7, 8] (.tup (.cons (.nm 3) (.cons (.tup (.cons (.nm 4) (.cons (.nm 5) (.cons (.nm 6) .nil)))) .nil))) (.enu (.var 1)) .yes [7, 8] (.tup (.cons (.nm 7) (.cons (.nm 8) .nil))) (.wAny (.ix (.var 0) (.bin .sub (.var 2) (.var 4)))) (.or (.not (.tru (.var 7))) (.one (.cmp .le (.ix (.var 8) (.neg (.con (.int 1)))) (.var 3)))) (.tup (.cons (.tup (.star (.var 7) (.cons (.var 5) .nil))) (.cons (.tup (.star (.var 8) (.cons (.var 3) .nil))) .nil))))) .nx)
def c__law_size : Sc := .seq (.ret (.bin .add (.con (.int 1)) (.bn .sum (.cons (.lc [1] (.nm 1) (.wAny (.sl (.var 0) true false (.con (.int 1)) .nil)) .yes (.call 10 1 (.cons (.var 1) .nil))) .nil)))) .nx
def c__law_rows : Sc := .seq (.iff (.cmp .eq (.var 2) (.con (.int 0))) (.seq (.ret (.lst (.cons (.tup .nil) .nil))) .nx) .nx) (.seq (.asg 3 (.lst .nil)) (.seq (.for (.nm 4) (.rg2 (.con (.int 1)) (.bin .add (.bn .min (.cons (.var 1) (.cons (.var 2) .nil))) (.con (.int 1)))) (.seq (.for (.nm 5) (.wAny (.call 11 3 (.cons (.var 0) (.cons (.var 4) (.cons (.bin .sub (.var 2) (.var 4)) .nil))))) (.seq (.for (.nm 6) (.wAny (.ix (.var 0) (.var 4))) (.seq (.iff (.or (.cmp .eq (.var 5) (.tup .nil)) (.one (.and (.cmp .gt (.bn .len (.cons (.var 5) .nil)) (.con (.int 0))) (.one (.cmp .le (.tup (.cons (.call 10 1 (.cons (.ix (.var 5) (.neg (.con (.int 1)))) .nil)) (.cons (.ix (.var 5) (.neg (.con (.int 1)))) .nil))) (.tup (.cons (.var 4) (.cons (.var 6) .nil)))))))) (.seq (.ex (.mt .append (.var 3) (.cons (.bin .add (.var 5) (.tup (.cons (.var 6) .nil))) .nil))) .nx) .nx) .nx)) .nx)) .nx)) (.seq (.ret (.var 3)) .nx)))
def c__law_trees : Sc := .seq (.asg 2 (.dict0)) (.seq (.for (.nm 3) (.rg2 (.con (.int 1)) (.bin .add (.var 1) (.con (.int 1)))) (.seq (.asg 4 (.lst .nil)) (.seq (.for (.nm 5) (.wAny (.call 11 3 (.cons (.var 2) (.cons (.bin .sub (.var 3) (.con (.int 1))) (.cons (.bin .sub (.var 3) (.con (.int 1))) .nil))))) (.seq (.ex (.mt .extend (.var 4) (.cons (.lc [6] (.nm 6) (.wAny (.var 0)) .yes (.bin .add (.tup (.cons (.var 6) .nil)) (.var 5))) .nil))) .nx)) (.seq (.dset (.var 2) (.var 3) (.bn .sorted (.cons (.var 4) .nil))) .nx)))) (.seq (.ret (.var 2)) .nx))
def c__law_is_refused : Sc := .seq (.asg 2 (.con (.bl false))) (.seq (.tri 3 (.seq (.ex (.call 7 2 (.cons (.var 0) (.cons (.var 1) .nil)))) .nx) (.seq (.asg 2 (.con (.bl true))) .nx)) (.seq (.ret (.var 2)) .nx))
def c__law_typed_right : Sc := .seq (.asgLc 0 [1] (.nm 1) (.rg2 (.con (.int 1)) (.con (.int 9))) .yes (.bn .len (.cons (.call 7 2 (.cons (.lst (.cons (.con (.str (.cons (.ch 97) .nil))) .nil)) (.cons (.var 1) .nil))) .nil))) (.seq (.iff (.or (.cmp .ne (.var 0) (.lst (.cons (.con (.int 1)) (.cons (.con (.int 1)) (.cons (.con (.int 2)) (.cons (.con (.int 4)) (.cons (.con (.int 9)) (.cons (.con (.int 20)) (.cons (.con (.int 48)) (.cons (.con (.int 115)) .nil)))))))))) (.one (.cmp .ne (.bn .len (.cons (.call 7 2 (.cons (.lst (.cons (.con (.str (.cons (.ch 98) .nil))) (.cons (.con (.str (.cons (.ch 97) .nil))) .nil))) (.cons (.con (.int 5)) .nil))) .nil)) (.con (.int 214))))) (.seq (.ret (.con (.bl false))) .nx) .nx) (.seq (.iff (.or (.not (.call 13 2 (.cons (.lst (.cons (.con (.str (.cons (.ch 98) .nil))) (.cons (.con (.str (.cons (.ch 97) .nil))) .nil))) (.cons (.con (.int 7)) .nil)))) (.or (.not (.call 13 2 (.cons (.lst (.cons (.con (.str (.cons (.ch 97) .nil))) .nil)) (.cons (.con (.int 12)) .nil)))) (.one (.not (.call 13 2 (.cons (.lst (.cons (.con (.str (.cons (.ch 97) .nil))) .nil)) (.cons (.con (.int 11)) .nil))))))) (.seq (.ret (.con (.bl false))) .nx) .nx) (.seq (.asg 2 (.lst (.cons (.con (.str (.cons (.ch 97) .nil))) (.cons (.con (.str (.cons (.ch 98) .nil))) (.cons (.con (.str (.cons (.ch 99) .nil))) (.cons (.con (.str (.cons (.ch 100) .nil))) (.cons (.con (.str (.cons (.ch 101) .nil))) (.cons (.con (.str (.cons (.ch 102) .nil))) (.cons (.con (.str (.cons (.ch 103) .nil))) (.cons (.con (.str (.cons (.ch 104) .nil))) .nil)))))))))) (.seq (.iff (.or (.cmp .ne (.bn .len (.cons (.call 7 2 (.cons (.sl (.var 2) false true .nil (.con (.int 4))) (.cons (.con (.int 4)) .nil))) .nil)) (.con (.int 752))) (.one (.cmp .ne (.bn .len (.cons (.call 7 2 (.cons (.var 2) (.cons (.con (.int 3)) .nil))) .nil)) (.con (.int 800))))) (.seq (.ret (.con (.bl false))) .nx) .nx) (.seq (.iff (.or (.not (.call 13 2 (.cons (.sl (.var 2) false true .nil (.con (.int 5))) (.cons (.con (.int 4)) .nil)))) (.or (.not (.call 13 2 (.cons (.var 2) (.cons (.con (.int 12)) .nil)))) (.one (.not (.call 13 2 (.cons (.sl (.var 2) false true .nil (.con (.int 2))) (.cons (.con (.int 12)) .nil))))))) (.seq (.ret (.con (.bl false))) .nx) .nx) (.seq (.ret (.cmp .eq (.call 7 2 (.cons (.lst (.cons (.con (.str (.cons (.ch 98) .nil))) (.cons (.con (.str (.cons (.ch 97) .nil))) .nil))) (.cons (.con (.int 2)) .nil))) (.lst (.cons (.tup (.cons (.con (.str (.cons (.ch 97) .nil))) (.cons (.tup (.cons (.con (.str (.cons (.ch 97) .nil))) .nil)) .nil))) (.cons (.tup (.cons (.con (.str (.cons (.ch 97) .nil))) (.cons (.tup (.cons (.con (.str (.cons (.ch 98) .nil))) .nil)) .nil))) (.cons (.tup (.cons (.con (.str (.cons (.ch 98) .nil))) (.cons (.tup (.cons (.con (.str (.cons (.ch 97) .nil))) .nil)) .nil))) (.cons (.tup (.cons (.con (.str (.cons (.ch 98) .nil))) (.cons (.tup (.cons (.con (.str (.cons (.ch 98) .nil))) .nil)) .nil))) .nil))))))) .nx))))))
def d_is_name : FnD := ⟨"is_name", ["thing"], ["thing", "letter"], 1, top 2, c_is_name⟩
def d_is_number : FnD := ⟨"is_number", ["thing", "low", "high"], ["thing", "low", "high"], 0, top 3, c_is_number⟩
def d_is_signs : FnD := ⟨"is_signs", ["thing"], ["thing", "sign"], 1, top 13, c_is_signs⟩
def d_check_signs : FnD := ⟨"check_signs", ["signs"], ["signs"], 0, top 14, c_check_signs⟩
def d_numbers_of_trees : FnD := ⟨"numbers_of_trees", ["many", "most"], ["many", "most", "trees", "rows", "shares", "places", "part"], 5, top 15, c_numbers_of_trees⟩
def d_has_few : FnD := ⟨"has_few", ["signs", "places"], ["signs", "places"], 0, top 16, c_has_few⟩
def d_check_few : FnD := ⟨"check_few", ["signs", "places"], ["signs", "places"], 0, top 17, c_check_few⟩
def d_trees_of_size : FnD := ⟨"trees_of_size", ["signs", "size"], ["signs", "size", "places", "tree", "_"], 3, top 18, c_trees_of_size⟩
def d_numbered_trees : FnD := ⟨"numbered_trees", ["signs", "most"], ["signs", "most", "found", "rows", "places", "brothers", "sign", "row", "indexes"], 7, top 19, c_numbered_trees⟩
def d__longer_rows : FnD := ⟨"_longer_rows", ["rows", "found"], ["rows", "found", "many", "index", "places", "tree", "_", "row", "indexes"], 7, top 20, c__longer_rows⟩
def d__law_size : FnD := ⟨"_law_size", ["tree"], ["tree", "brother"], 1, top 25, c__law_size⟩
def d__law_rows : FnD := ⟨"_law_rows", ["lists", "most", "total"], ["lists", "most", "total", "found", "one", "row", "tree"], 4, top 26, c__law_rows⟩
def d__law_trees : FnD := ⟨"_law_trees", ["signs", "most"], ["signs", "most", "lists", "total", "here", "row", "sign"], 5, top 27, c__law_trees⟩
def d__law_is_refused : FnD := ⟨"_law_is_refused", ["signs", "total"], ["signs", "total", "is_so"], 1, top 29, c__law_is_refused⟩
def d__law_typed_right : FnD := ⟨"_law_typed_right", [], ["told", "total", "many"], 3, top 30, c__law_typed_right⟩
def fns : List FnD := [d_is_name, d_is_number, d_is_signs, d_check_signs, d_numbers_of_trees, d_has_few, d_check_few, d_trees_of_size, d_numbered_trees, d__longer_rows, d__law_size, d__law_rows, d__law_trees, d__law_is_refused, d__law_typed_right]
def gls : List (Str × EV) := [("LONGEST_NAME", .int 8), ("MOST_SIGNS", .int 8), ("GREATEST_SIZE", .int 12), ("MOST_TREES", .int 1000)]
def exs : List Str := ["BroodError", "InvalidNumber", "InvalidSigns", "TooMany"]
noncomputable def M (c d : Nat) : Option Bool := Bool.rec (motive := fun _ => Option Bool) none (some (Nat.beq c d)) (andB (Nat.blt c 4) (Nat.beq d 3))
noncomputable abbrev T : Tbl := tbl fns gls exs M
theorem k_is_name : d_is_name.okB T false = true := by decide +kernel
theorem k_is_number : d_is_number.okB T false = true := by decide +kernel
theorem k_is_signs : d_is_signs.okB T false = true := by decide +kernel
theorem k_check_signs : d_check_signs.okB T false = true := by decide +kernel
theorem k_numbers_of_trees : d_numbers_of_trees.okB T false = true := by decide +kernel
theorem k_has_few : d_has_few.okB T false = true := by decide +kernel
theorem k_check_few : d_check_few.okB T false = true := by decide +kernel
theorem k_trees_of_size : d_trees_of_size.okB T false = true := by decide +kernel
theorem k_numbered_trees : d_numbered_trees.okB T false = true := by decide +kernel
theorem k__longer_rows : d__longer_rows.okB T false = true := by decide +kernel
theorem k__law_size : d__law_size.okB T false = true := by decide +kernel
theorem k__law_rows : d__law_rows.okB T false = true := by decide +kernel
theorem k__law_trees : d__law_trees.okB T false = true := by decide +kernel
theorem k__law_is_refused : d__law_is_refused.okB T false = true := by decide +kernel
theorem k__law_typed_right : d__law_typed_right.okB T false = true := by decide +kernel
theorem k_all : ∀ d ∈ fns, d.okB T false = true := fun d h => by
  simp only [fns, List.mem_cons, List.not_mem_nil, or_false] at h
  rcases h with rfl | rfl | rfl | rfl | rfl | rfl | rfl | rfl | rfl | rfl | rfl | rfl | rfl | rfl | rfl
  · exact k_is_name
  · exact k_is_number
  · exact k_is_signs
  · exact k_check_signs
  · exact k_numbers_of_trees
  · exact k_has_few
  · exact k_check_few
  · exact k_trees_of_size
  · exact k_numbered_trees
  · exact k__longer_rows
  · exact k__law_size
  · exact k__law_rows
  · exact k__law_trees
  · exact k__law_is_refused
  · exact k__law_typed_right
noncomputable abbrev F (k : Nat) : Fns := Fk fns (nthG gls) M k
noncomputable def goodE (r : RE) : Bool := RE.rec (motive := fun _ => Bool) (fun v _ _ => onBl false (fun b => b) v) (fun _ _ _ _ => false) false r
end K02
set_option maxHeartbeats 4100000

set_option maxHeartbeats 0
namespace K02
open PySem L2 Dz
def NL : List Str := ["script", "pen", "lap", "signs", "lists", "kept", "total", "again", "found"]
def c_lap : Sc := .seq (.par 4 5 (.cons (.call 12 2 (.cons (.var 3) (.cons (.ite (.cmp .lt (.bn .len (.cons (.var 3) .nil)) (.con (.int 3))) (.con (.int 5)) (.con (.int 4))) .nil))) (.cons (.bn .repr (.cons (.var 3) .nil)) .nil))) (.seq (.lock 4 (.for (.nm 6) (.wAny (.var 4)) (.seq (.for (.nm 7) (.rg1 (.con (.int 2))) (.seq (.asg 8 (.call 7 2 (.cons (.var 3) (.cons (.var 6) .nil)))) (.seq (.iff (.cmp .ne (.bn .repr (.cons (.var 8) .nil)) (.bn .repr (.cons (.ix (.var 4) (.var 6)) .nil))) (.seq (.ret (.con (.bl false))) .nx) .nx) (.seq (.ex (.mt .append (.var 8) (.cons (.con (.non)) .nil))) .nx)))) .nx))) (.seq (.iff (.cmp .ne (.bn .repr (.cons (.var 3) .nil)) (.var 5)) (.seq (.ret (.con (.bl false))) .nx) .nx) .nx))
noncomputable def l0 : LL := .un (.as (.cst 0) (.un (.as (.ref 0) (.un (.un (.un (.un (.un .nil))))))))
noncomputable def h0 (e : EV) : Tr := .node (some (.lst e)) .leaf .leaf
noncomputable def penB (l : LL) : Bool := LL.rec (motive := fun _ => Bool) false (fun r _ => LL.rec (motive := fun _ => Bool) false (fun _ _ => false) (fun x _ _ => onCst false (fun n => Nat.beq n 0) x) r) (fun _ r _ => LL.rec (motive := fun _ => Bool) false (fun _ _ => false) (fun x _ _ => onCst false (fun n => Nat.beq n 0) x) r) l
noncomputable def llen (l : LL) : Nat := LL.rec (motive := fun _ => Nat) Nat.zero (fun _ n => Nat.succ n) (fun _ _ n => Nat.succ n) l
noncomputable def lapB (r : RS) : Bool := RS.rec (motive := fun _ => Bool) (fun l _ _ => andB (penB l) (Nat.beq (llen l) 9)) (fun _ _ _ => false) (fun _ _ _ => false) (fun _ _ _ => false) (fun _ _ _ _ _ => false) false r
noncomputable def lapR (e : EV) : RS := c_lap.den (F 20) (nthG gls) M l0 (h0 e) 1
def sg0 : EV := .cons (.str (.cons (.ch 97) .nil)) (.cons (.str (.cons (.ch 102) .nil)) .nil)
def sg1 : EV := .cons (.str (.cons (.ch 102) .nil)) (.cons (.str (.cons (.ch 97) .nil)) (.cons (.str (.cons (.ch 98) .nil)) .nil))
def sg2 : EV := .cons (.str (.cons (.ch 97) .nil)) .nil
def sg3 : EV := .cons (.str (.cons (.ch 97) .nil)) (.cons (.str (.cons (.ch 102) .nil)) (.cons (.str (.cons (.ch 103) .nil)) .nil))
def sg4 : EV := .cons (.str (.cons (.ch 97) (.cons (.ch 98) (.cons (.ch 99) (.cons (.ch 100) (.cons (.ch 101) (.cons (.ch 102) (.cons (.ch 103) (.cons (.ch 104) .nil))))))))) (.cons (.str (.cons (.ch 122) .nil)) .nil)
end K02
set_option maxHeartbeats 4100000

namespace K02
open PySem L2 Dz PyProof.Rows
/-- the heap behind: p stands for o, what else stood stands -/
structure Gr (H H' : Hp) (p : Addr) (o : HO) : Prop where
  at_ : H' p = some o
  keep : ∀ a u, a ≠ p → H a = some u → H' a = some u
  dom : ∀ a, H' a = none → H a = none
theorem Gr.trans {H H' H2 : Hp} {p : Addr} {o u : HO} (a : Gr H H' p o) (b : Gr H' H2 p u) : Gr H H2 p u := ⟨b.at_, fun x v n e => b.keep x v n (a.keep x v n e), fun x z => a.dom x (b.dom x z)⟩
theorem Gr.upd {H : Hp} {p : Addr} {o u : HO} (h : H p = some u) : Gr H (L2.upd H p o) p o := ⟨upd_same, fun a v n e => by rw [upd_ne n]; exact e, fun a z => by
  by_cases q : a = p
  · rw [q, upd_same] at z; cases z
  · rw [upd_ne q] at z; exact z⟩
theorem Gr.laid {H H' : Hp} {p r : Addr} {o u : HO} (g : Gr H H' p o) (hr : H' r = none) : Gr H (L2.upd H' r u) p o := ⟨by rw [upd_ne (ne_of_none g.at_ hr)]; exact g.at_, fun a v n e => by
  have := g.keep a v n e
  rw [upd_ne (ne_of_none this hr)]; exact this, fun a z => by
  by_cases q : a = r
  · rw [q, upd_same] at z; cases z
  · rw [upd_ne q] at z; exact g.dom a z⟩
theorem Gr.refl {H : Hp} {p : Addr} {o : HO} (h : H p = some o) : Gr H H p o := ⟨h, fun _ _ _ e => e, fun _ z => z⟩
abbrev PenO (q : Addr) (i d : Int) : HO := .lst [.ref q, .int i, .int d]
/-- the pen stands at p -/
structure Pen (H : Hp) (p q : Addr) (i d : Int) (ms : List Int) : Prop where
  p : H p = some (PenO q i d)
  q : H q = some (.lst (ms.map V.int))
theorem Pen.ne {H : Hp} {p q : Addr} {i d : Int} {ms : List Int} (h : Pen H p q i d ms) : q ≠ p := fun z => by
  have a := h.p
  have b := h.q
  rw [z, a] at b
  have e := congrArg (fun o => match o with | some (.lst (x :: _)) => x | _ => V.non) b
  cases ms with
  | nil => cases e
  | cons m r => cases e
variable {w : World} {K : PySem.W.Frag} {mg : Str → Option Value} {base : Heap} {CV : Nat → Value}
abbrev Pr : Program := PySem.Challenge.pw_broodcounts_k02_trees_of_a_size
abbrev sPen : Stmt := top 22
theorem scPen : FnScope ["script"] ["script"] (defScope sPen) := scB_ok (by decide +kernel)
def spP (K : PySem.W.Frag) : Sp := fun vs H Q _ => ∃ (a : Addr) (ns : List Int), vs = [.ref a] ∧ SqL K H a (ns.map V.int) ∧ ∀ H' p q ms, Pen H' p q 0 0 ms → (∀ x u, H x = some u → H' x = some u) → H p = none → Q (.ref p) H'
theorem cut_int (ns : List Int) (lo hi : Option Int) : ∃ ms : List Int, cutV (ns.map V.int) lo hi = ms.map V.int := ⟨_, by unfold cutV; rw [← List.map_drop, ← List.map_take]⟩
theorem ok_pen {f : Addr} {fd : FuncData} {k : Nat} (Wp : Wr K mg CV fns gls exs M) (Fu : Fun K "_law_pen" "_law_pen" sPen f fd) : FnOk Pr w K mg base (L2.CX Pr w) (k + 1) f fd ["script"] (spP K) := by
  refine Fu.okX scPen (fun vs H Q E h => by obtain ⟨a, ns, e, _⟩ := h; rw [e]; rfl) fun cdv A outer s H vs Q E hr h => ⟨_, pss_one (ps_ret (pe_lst (pa_cons (pe_callTy call_list_of rfl (Wp.bt "list" (by decide)) rfl (pa_cons (pe_slice sl_list (pe_var (i := 0) rfl (.inl rfl)) po_none (po_some pe_int)) pa_nil)) (pa_cons pe_int (pa_cons pe_int pa_nil))))), ?_⟩
  obtain ⟨a, ns, rfl, hs, hq⟩ := h
  refine ⟨.ref a, rfl, ?_⟩
  refine ⟨_, rfl, a, ns.map V.int, rfl, hs, fun r hr' => ?_⟩
  obtain ⟨ms, em⟩ := cut_int ns none (some 60)
  rw [em]
  refine ⟨r, ms.map V.int, rfl, .inl (SqL.of upd_same), fun q hq' => ?_⟩
  refine ⟨by rw [sizeLine_eq]; show 3 ≤ 16777216; decide, fun p hp => ?_⟩
  have e1 : ∀ x u, H x = some u → L2.upd (L2.upd H r (.lst (ms.map V.int))) q (.lst (ms.map V.int)) x = some u := fun x u e => by
    have h1 : L2.upd H r (.lst (ms.map V.int)) x = some u := by rw [upd_ne (ne_of_none e hr')]; exact e
    rw [upd_ne (ne_of_none h1 hq')]; exact h1
  refine hq _ p q ms ⟨upd_same, ?_⟩ (fun x u e => by rw [upd_ne (ne_of_none (e1 x u e) hp)]; exact e1 x u e) ?_
  · rw [upd_ne (ne_of_none upd_same hp)]; exact upd_same
  · cases z : H p with
    | none => rfl
    | some u => rw [e1 p u z] at hp; cases hp
abbrev sNext : Stmt := top 23
abbrev NN : List Str := ["pen", "index", "cell_here", "some", "more", "high"]
theorem scNext : FnScope NN ["pen"] (defScope sNext) := scB_ok (by decide +kernel)
def spNext : Sp := fun vs H Q _ => ∃ p q i d ms, vs = [.ref p] ∧ Pen H p q i d ms ∧ 0 ≤ i ∧ i ≤ 1000 ∧ ∀ (z : Int) H', Gr H H' p (PenO q (i + 1) d) → Q (.int z) H'
theorem lg {x : Int} {n : Nat} (h : x.natAbs < 2 ^ n) : x.natAbs.log2 < n + 1 := by
  cases e : x.natAbs with
  | zero => rw [Nat.log2_zero]; omega
  | succ m =>
    rw [e] at h
    have := (Nat.log2_lt (n := m + 1) (k := n) (by omega)).mpr h
    omega
theorem cmulw {x y : Int} {n m : Nat} (h1 : x.natAbs < 2 ^ n) (h2 : y.natAbs < 2 ^ m) (h : n + m + 2 < 1000000) : CMulW x y := by
  have a := lg h1
  have b := lg h2
  show x.natAbs.log2 + y.natAbs.log2 < 1000000
  omega
/-- the tail behind the look at the cell -/
def tNextIf (K : PySem.W.Frag) : TS := (tIfS (tAnd (tTest (tOp (rI0 fun i j => .bl (decide (i < j))) (tVar 1) (tCB (fun xs H Q => ∃ p ys, xs = [.ref p] ∧ (SqL K H p ys ∨ SqT K H p ys) ∧ Q (.int ys.length) H) (tCons (tOp (rIxL K) (tVar 0) (tC (.int 0))) tNil)))) (tTest (tOp (rI0 fun i j => .bl (decide (j ≤ i))) (tVar 2) (tOp (rI CPow fun i j => .int (i ^ j.toNat)) (tC (.int 10)) (tC (.int 18)))))) (tRet (tVar 2)) tNext)
def tA3 : TS := (tAsg (tOp (rI (fun _ j => 0 < j) fun i j => .int (i % j)) (tCB (fun xs H Q => (∃ i, xs = [.int i] ∧ Q (.int i) H) ∨ ∃ k, xs = [.bl k] ∧ Q (.int (if k then 1 else 0)) H) (tCons (tOp (rI0 fun i j => .int (i + j)) (tOp (rI0 fun i j => .int (i + j)) (tOp (rI (fun _ j => 0 < j) fun i j => .int (i % j)) (tCB (fun xs H Q => (∃ i, xs = [.int i] ∧ Q (.int i) H) ∨ ∃ k, xs = [.bl k] ∧ Q (.int (if k then 1 else 0)) H) (tCons (tVar 2) tNil)) (tC (.int 2147483587))) (tOp (rI CMulW fun i j => .int (i * j)) (tVar 1) (tC (.int 30103)))) (tC (.int 79))) tNil)) (tC (.int 2147483587))) (gName 3))
def tA4 : TS := (tAsg (tOp (rI (fun _ j => 0 < j) fun i j => .int (i % j)) (tCB (fun xs H Q => (∃ i, xs = [.int i] ∧ Q (.int i) H) ∨ ∃ k, xs = [.bl k] ∧ Q (.int (if k then 1 else 0)) H) (tCons (tOp (rI0 fun i j => .int (i + j)) (tOp (rI0 fun i j => .int (i + j)) (tOp (rI CMulW fun i j => .int (i * j)) (tVar 3) (tVar 3)) (tOp (rI CMulW fun i j => .int (i * j)) (tVar 1) (tC (.int 70039)))) (tC (.int 61))) tNil)) (tC (.int 2147483563))) (gName 4))
def tA5 : TS := (tAsg (tOp (rI (fun _ j => 0 < j) fun i j => .int (i % j)) (tCB (fun xs H Q => (∃ i, xs = [.int i] ∧ Q (.int i) H) ∨ ∃ k, xs = [.bl k] ∧ Q (.int (if k then 1 else 0)) H) (tCons (tOp (rI0 fun i j => .int (i + j)) (tOp (rI0 fun i j => .int (i + j)) (tOp (rI CMulW fun i j => .int (i * j)) (tVar 4) (tVar 4)) (tVar 3)) (tOp (rI CMulW fun i j => .int (i * j)) (tOp (rI CMulW fun i j => .int (i * j)) (tVar 1) (tVar 1)) (tC (.int 37)))) tNil)) (tC (.int 2147483549))) (gName 5))
def tR6 : TS := (tRet (tOp (rI0 fun i j => .int (i + j)) (tOp (rI CMulW fun i j => .int (i * j)) (tOp (rI0 fun i j => .int (i + j)) (tOp (rI CMulW fun i j => .int (i * j)) (tVar 5) (tC (.int 2147483587))) (tVar 4)) (tC (.int 2147483563))) (tVar 3)))
def tNextEnd : TS := tSeq tA3 (tSeq tA4 (tSeq tA5 tR6))
def tNextTail (K : PySem.W.Frag) : TS := tSeq (tNextIf K) tNextEnd
theorem nn (x : Int) {b : Int} (h : 0 < b) : 0 ≤ x % b ∧ x % b < b := ⟨Int.emod_nonneg x (by omega), Int.emod_lt_of_pos x h⟩
section
variable {H3 : Hp} {i z a b c : Int} {vp : V} {Q : VK} {D : Ends}
theorem bi (hi : 0 ≤ i) (hi2 : i ≤ 1000) (c : Int) (hc : c.natAbs < 2 ^ 40) : CMulW i c := cmulw (n := 10) (m := 40) (by omega) hc (by decide)
theorem next_e6 (hq : ∀ z : Int, Q (V.int z) H3) (hD : D.rt = Q) (a1 : 0 ≤ a) (a2 : a < 2147483587) (b1 : 0 ≤ b) (b2 : b < 2147483563) (c1 : 0 ≤ c) (c2 : c < 2147483549) : tR6 D [some vp, some (.int i), some (.int z), some (.int a), some (.int b), some (.int c)] H3 := by
  have hc : (c * 2147483587 + b).natAbs < 2 ^ 63 := by
    have : 0 ≤ c * 2147483587 + b := by omega
    omega
  refine ⟨.int c, rfl, c, 2147483587, rfl, rfl, cmulw (n := 31) (m := 40) (by omega) (by decide) (by decide), .int b, rfl, c * 2147483587, b, rfl, rfl, c * 2147483587 + b, 2147483563, rfl, rfl, cmulw (n := 63) (m := 40) hc (by decide) (by decide), .int a, rfl, _, a, rfl, rfl, ?_⟩
  show D.rt _ H3
  rw [hD]
  exact hq _
theorem next_e5 (hi : 0 ≤ i) (hi2 : i ≤ 1000) (hq : ∀ z : Int, Q (V.int z) H3) (hD : D.rt = Q) (a1 : 0 ≤ a) (a2 : a < 2147483587) (b1 : 0 ≤ b) (b2 : b < 2147483563) : tSeq tA5 tR6 D [some vp, some (.int i), some (.int z), some (.int a), some (.int b), none] H3 := by
  have hii : (i * i).natAbs < 2 ^ 21 := by
    have h1 : i.natAbs ≤ 1000 := by omega
    rw [Int.natAbs_mul]
    have := Nat.mul_le_mul h1 h1
    omega
  obtain ⟨c1, c2⟩ := nn (b * b + a + i * i * 37) (b := 2147483549) (by decide)
  exact ⟨.int b, rfl, .int b, rfl, b, b, rfl, rfl, cmulw (n := 31) (m := 31) (by omega) (by omega) (by decide), .int a, rfl, b * b, a, rfl, rfl, .int i, rfl, .int i, rfl, i, i, rfl, rfl, bi hi hi2 _ (by omega), i * i, 37, rfl, rfl, cmulw (n := 21) (m := 10) hii (by decide) (by decide), _, i * i * 37, rfl, rfl, .inl ⟨_, rfl, _, 2147483549, rfl, rfl, (show (0 : Int) < 2147483549 by decide), next_e6 hq hD a1 a2 b1 b2 c1 c2⟩⟩
theorem next_e4 (hi : 0 ≤ i) (hi2 : i ≤ 1000) (hq : ∀ z : Int, Q (V.int z) H3) (hD : D.rt = Q) (a1 : 0 ≤ a) (a2 : a < 2147483587) : tSeq tA4 (tSeq tA5 tR6) D [some vp, some (.int i), some (.int z), some (.int a), none, none] H3 := by
  obtain ⟨b1, b2⟩ := nn (a * a + i * 70039 + 61) (b := 2147483563) (by decide)
  exact ⟨.int a, rfl, .int a, rfl, a, a, rfl, rfl, cmulw (n := 31) (m := 31) (by omega) (by omega) (by decide), .int i, rfl, i, 70039, rfl, rfl, bi hi hi2 _ (by decide), a * a, i * 70039, rfl, rfl, _, 61, rfl, rfl, .inl ⟨_, rfl, _, 2147483563, rfl, rfl, (show (0 : Int) < 2147483563 by decide), next_e5 (D := D) hi hi2 hq hD a1 a2 b1 b2⟩⟩
theorem next_end (hi : 0 ≤ i) (hi2 : i ≤ 1000) (hq : ∀ z : Int, Q (V.int z) H3) (hD : D.rt = Q) : tNextEnd D [some vp, some (.int i), some (.int z), none, none, none] H3 := by
  obtain ⟨a1, a2⟩ := nn (z % 2147483587 + i * 30103 + 79) (b := 2147483587) (by decide)
  exact ⟨.int z, rfl, .inl ⟨z, rfl, z, 2147483587, rfl, rfl, (show (0 : Int) < 2147483587 by decide), .int i, rfl, i, 30103, rfl, rfl, bi hi hi2 _ (by decide), z % 2147483587, i * 30103, rfl, rfl, _, 79, rfl, rfl, .inl ⟨_, rfl, _, 2147483587, rfl, rfl, (show (0 : Int) < 2147483587 by decide), next_e4 (D := D) hi hi2 hq hD a1 a2⟩⟩⟩
end
theorem next_tail {H H3 : Hp} {p q : Addr} {i d z : Int} {ms : List Int} {Q : VK} (hi : 0 ≤ i) (hi2 : i ≤ 1000) (hq : ∀ (z : Int) (H' : Hp), Gr H H' p (PenO q (i + 1) d) → Q (V.int z) H') (g3 : Gr H H3 p (PenO q (i + 1) d)) (q3 : H3 q = some (.lst (ms.map V.int))) :
    tNextTail K { nx := fun _ H' => Q .non H', rt := Q } [some (.ref p), some (.int i), some (.int z), none, none, none] H3 := by
  have go := fun (D : Ends) (hD : D.rt = Q) => next_end (H3 := H3) (z := z) (vp := .ref p) (Q := Q) hi hi2 (fun z => hq z H3 g3) (D := D) hD
  refine ⟨.int i, rfl, .ref p, rfl, p, [.ref q, .int (i + 1), .int d], 0, .ref q, rfl, rfl, SqL.of g3.at_, rfl, q, ms.map V.int, rfl, .inl (SqL.of q3), i, _, rfl, rfl, _, rfl, ?_⟩
  cases hb : decide (i < (((ms.map V.int).length : Nat) : Int)) with
  | false => exact Dz.iteF (go _ rfl)
  | true =>
    refine Dz.iteT ⟨.int z, rfl, 10, 18, rfl, rfl, ⟨by decide, by decide, by decide⟩, z, _, rfl, rfl, _, rfl, ?_⟩
    cases hc : decide ((10 : Int) ^ (18 : Int).toNat ≤ z) with
    | false => exact Dz.iteF (go _ rfl)
    | true => exact Dz.iteT ⟨.int z, rfl, hq z H3 g3⟩
theorem ok_next {f : Addr} {fd : FuncData} {k : Nat} (Wp : Wr K mg CV fns gls exs M) (Fu : Fun K "_law_next" "_law_next" sNext f fd) : FnOk Pr w K mg base (L2.CX Pr w) (k + 1) f fd ["pen"] spNext := by
  refine Fu.okX scNext (fun vs H Q E h => by obtain ⟨p, q, i, d, ms, e, _⟩ := h; rw [e]; rfl) fun cdv A outer s H vs Q E hr h => ⟨_,
    pss_cons (ps_set (i := 1) scNext.nd rfl (.inl rfl) (pe_ix ix_list (pe_var (i := 0) rfl (.inl rfl)) pe_int (fun _ _ => rfl)))
    (pss_cons (ps_asg (pe_op op_add (pe_var (i := 1) rfl (.inl rfl)) pe_int) (pg_sub (pe_var (i := 0) rfl (.inl rfl)) pe_int set_list))
    (pss_cons (ps_set (i := 2) scNext.nd rfl (.inl rfl) (pe_op op_add (pe_op op_mulW (pe_var (i := 1) rfl (.inl rfl)) pe_int) pe_int))
    (pss_cons (ps_if (pt_cmpR (op_neD (by have := hr.un; show (A.deeper _).units + 64 < cLine; omega)) (pe_ix ix_list (pe_var (i := 0) rfl (.inl rfl)) pe_int (fun _ _ => rfl)) (pe_lst pa_nil) rfl)
      (pss_one (ps_set (i := 2) scNext.nd rfl (.inl rfl) (pe_ix ix_list (pe_ix ix_list (pe_var (i := 0) rfl (.inl rfl)) pe_int (fun _ _ => rfl)) (pe_op op_mod (pe_callTy call_int1 rfl (Wp.bt "int" (by decide)) rfl (pa_cons (pe_var (i := 1) rfl (.inl rfl)) pa_nil)) (pe_callB call_len_seq rfl (Wp.bt "len" (by decide)) rfl (pa_cons (pe_ix ix_list (pe_var (i := 0) rfl (.inl rfl)) pe_int (fun _ _ => rfl)) pa_nil))) (fun _ _ => rfl)))) pss_nil)
    (pss_cons (ps_if (PW.pt (pw_and (pt_cmpR op_lt (pe_var (i := 1) rfl (.inl rfl)) (pe_callB call_len_seq rfl (Wp.bt "len" (by decide)) rfl (pa_cons (pe_ix ix_list (pe_var (i := 0) rfl (.inl rfl)) pe_int (fun _ _ => rfl)) pa_nil)) rfl) (pw_and1 (pt_cmpR op_ge (pe_var (i := 2) rfl (.inl rfl)) (pe_op op_pow pe_int pe_int) rfl))))
      (pss_one (ps_ret (pe_var (i := 2) rfl (.inl rfl)))) pss_nil)
    (pss_cons (ps_set (i := 3) scNext.nd rfl (.inl rfl) (pe_op op_mod (pe_callTy call_int1 rfl (Wp.bt "int" (by decide)) rfl (pa_cons (pe_op op_add (pe_op op_add (pe_op op_mod (pe_callTy call_int1 rfl (Wp.bt "int" (by decide)) rfl (pa_cons (pe_var (i := 2) rfl (.inl rfl)) pa_nil)) pe_int) (pe_op op_mulW (pe_var (i := 1) rfl (.inl rfl)) pe_int)) pe_int) pa_nil)) pe_int))
    (pss_cons (ps_set (i := 4) scNext.nd rfl (.inl rfl) (pe_op op_mod (pe_callTy call_int1 rfl (Wp.bt "int" (by decide)) rfl (pa_cons (pe_op op_add (pe_op op_add (pe_op op_mulW (pe_var (i := 3) rfl (.inl rfl)) (pe_var (i := 3) rfl (.inl rfl))) (pe_op op_mulW (pe_var (i := 1) rfl (.inl rfl)) pe_int)) pe_int) pa_nil)) pe_int))
    (pss_cons (ps_set (i := 5) scNext.nd rfl (.inl rfl) (pe_op op_mod (pe_callTy call_int1 rfl (Wp.bt "int" (by decide)) rfl (pa_cons (pe_op op_add (pe_op op_add (pe_op op_mulW (pe_var (i := 4) rfl (.inl rfl)) (pe_var (i := 4) rfl (.inl rfl))) (pe_var (i := 3) rfl (.inl rfl))) (pe_op op_mulW (pe_op op_mulW (pe_var (i := 1) rfl (.inl rfl)) (pe_var (i := 1) rfl (.inl rfl))) pe_int)) pa_nil)) pe_int))
    (pss_one (ps_ret (pe_op op_add (pe_op op_mulW (pe_op op_add (pe_op op_mulW (pe_var (i := 5) rfl (.inl rfl)) pe_int) (pe_var (i := 4) rfl (.inl rfl))) pe_int) (pe_var (i := 3) rfl (.inl rfl)))))))))))), ?_⟩
  obtain ⟨p, q, i, d, ms, rfl, pn, hi, hi2, hq⟩ := h
  -- index, pen[1]
  refine ⟨.ref p, rfl, p, [.ref q, .int i, .int d], 1, .int i, rfl, rfl, SqL.of pn.p, rfl, ?_⟩
  refine ⟨.int i, rfl, i, 1, rfl, rfl, .ref p, rfl, p, [.ref q, .int i, .int d], 1, 1, rfl, rfl, pn.p, rfl, ?_⟩
  have g2 : Gr H (L2.upd H p (PenO q (i + 1) d)) p (PenO q (i + 1) d) := Gr.upd pn.p
  have q2 : (L2.upd H p (PenO q (i + 1) d)) q = some (.lst (ms.map V.int)) := g2.keep q _ pn.ne pn.q
  show tSeq _ _ _ _ (L2.upd H p (PenO q (i + 1) d))
  generalize L2.upd H p (PenO q (i + 1) d) = H2 at g2 q2
  have bi : ∀ c : Int, c.natAbs < 2 ^ 40 → CMulW i c := fun c hc => cmulw (n := 10) (m := 40) (by omega) hc (by decide)
  refine ⟨.int i, rfl, i, 1051, rfl, rfl, bi _ (by decide), i * 1051, 53, rfl, rfl, ?_⟩
  refine ⟨.ref p, rfl, p, [.ref q, .int (i + 1), .int d], 0, .ref q, rfl, rfl, SqL.of g2.at_, rfl, by rw [sizeLine_eq]; decide, fun r hr' => ?_⟩
  have g3 : Gr H (L2.upd H2 r (.lst [])) p (PenO q (i + 1) d) := g2.laid hr'
  have q3 : (L2.upd H2 r (.lst [])) q = some (.lst (ms.map V.int)) := by rw [upd_ne (ne_of_none q2 hr')]; exact q2
  have r3 : (L2.upd H2 r (.lst [])) r = some (.lst []) := upd_same
  generalize L2.upd H2 r (.lst []) = H3 at g3 q3 r3
  have dq : Dp K H3 (.ref q) (.list (ms.map PyData.int)) := .lst (SqL.of q3) (by
    clear q2 q3 pn
    induction ms with
    | nil => exact .nil
    | cons m ms ih => exact .cons (.int m) ih)
  have sq : SeqAt.shaped (.list (ms.map PyData.int)) = true := by
    have h1 : PyData.canLayAll0 (ms.map PyData.int) = true ∧ PyData.depthAll (ms.map PyData.int) = 0 := by
      clear q2 q3 pn dq
      induction ms with
      | nil => exact ⟨by simp [PyData.canLayAll0], by simp [PyData.depthAll]⟩
      | cons m ms ih => exact ⟨by simp [PyData.canLayAll0, PyData.canLay0, ih.1], by simp [PyData.depthAll, PyData.depth, ih.2]⟩
    unfold SeqAt.shaped
    simp [PyData.canLay0, PyData.depth, h1.1, h1.2]
  refine ⟨_, _, dq, .lst (SqL.of r3) .nil, sq, by decide +kernel, _, rfl, ?_⟩
  cases hb : (!PyData.eqv (.list (ms.map PyData.int)) (.list [])) with
  | false => refine Dz.iteF ?_
             exact next_tail (K := K) hi hi2 hq g3 q3
  | true =>
    refine Dz.iteT ?_
    have hm : 0 < ms.length := by
      cases ms with
      | nil => cases hb
      | cons => exact Nat.succ_pos _
    have hl : (ms.map V.int).length = ms.length := List.length_map _
    obtain ⟨n, hn, hlt⟩ : ∃ n : Nat, i % (ms.length : Int) = (n : Int) ∧ n < ms.length := by
      have h1 := nn i (b := (ms.length : Int)) (by omega)
      exact ⟨(i % (ms.length : Int)).toNat, by omega, by omega⟩
    have hat : atI (ms.map V.int) (i % (((ms.map V.int).length : Nat) : Int)) = some (.int ms[n]) := by
      rw [hl, hn]
      refine atI_nat ?_
      rw [List.getElem?_map, List.getElem?_eq_getElem hlt]; rfl
    refine ⟨.ref p, rfl, p, [.ref q, .int (i + 1), .int d], 0, .ref q, rfl, rfl, SqL.of g3.at_, rfl, .int i, rfl, .inl ⟨i, rfl, .ref p, rfl, p, [.ref q, .int (i + 1), .int d], 0, .ref q, rfl, rfl, SqL.of g3.at_, rfl, q, ms.map V.int, rfl, .inl (SqL.of q3), i, _, rfl, rfl, by rw [hl]; omega, q, ms.map V.int, _, _, rfl, rfl, SqL.of q3, hat, ?_⟩⟩
    exact next_tail (K := K) hi hi2 hq g3 q3
end K02

namespace K02
open PySem L2 Dz PyProof.Rows
variable {w : World} {K : PySem.W.Frag} {mg : Str → Option Value} {base : Heap} {CV : Nat → Value}
/-- a def as it is called -/
structure Cal (K : PySem.W.Frag) (mg : Str → Option Value) (nm : Str) (st : Stmt) (ps : List Str) (f : Addr) (fd : FuncData) : Prop where
  fu : Fun K nm nm st f fd
  mg : mg nm = some (.ref f)
  b : Binds K fd ps []
abbrev sDraw : Stmt := top 24
theorem scDraw : FnScope ["pen", "under", "digit"] ["pen", "under"] (defScope sDraw) := scB_ok (by decide +kernel)
def spDraw : Sp := fun vs H Q _ => ∃ p q i d ms, vs = [.ref p, .int 5] ∧ Pen H p q i d ms ∧ 0 ≤ i ∧ i ≤ 1000 ∧ ∀ (z : Int) H' i' d', 0 ≤ z → z < 5 → i ≤ i' → i' ≤ i + 1 → Gr H H' p (PenO q i' d') → Q (.int z) H'
def tDrawEnd (K : PySem.W.Frag) : TS := tSeq (tAsg (tOp (rI (fun _ j => 0 < j) fun i j => .int (i % j)) (tCB (fun xs H Q => (∃ i, xs = [.int i] ∧ Q (.int i) H) ∨ ∃ k, xs = [.bl k] ∧ Q (.int (if k then 1 else 0)) H) (tCons (tOp (rIxL K) (tVar 0) (tC (.int 2))) tNil)) (tVar 1)) (gName 2))
  (tSeq (tAsg (tOp (rI CDivW fun i j => .int (i / j)) (tOp (rIxL K) (tVar 0) (tC (.int 2))) (tVar 1)) (gSub (tVar 0) (tC (.int 2)) rSetL)) (tRet (tVar 2)))
theorem draw_end {H H1 : Hp} {p q : Addr} {i d : Int} {Q : VK} {D : Ends} (g : Gr H H1 p (PenO q i d)) (hD : D.rt = Q) (hq : ∀ (z : Int) H' d', 0 ≤ z → z < 5 → Gr H H' p (PenO q i d') → Q (.int z) H') : tDrawEnd K D [some (.ref p), some (.int 5), none] H1 := by
  obtain ⟨a1, a2⟩ := nn d (b := 5) (by decide)
  refine ⟨.ref p, rfl, p, [.ref q, .int i, .int d], 2, .int d, rfl, rfl, SqL.of g.at_, rfl, .inl ⟨d, rfl, .int 5, rfl, d, 5, rfl, rfl, (show (0 : Int) < 5 by decide), ?_⟩⟩
  refine ⟨.ref p, rfl, p, [.ref q, .int i, .int d], 2, .int d, rfl, rfl, SqL.of g.at_, rfl, .int 5, rfl, d, 5, rfl, rfl, ⟨by decide, by decide⟩, .ref p, rfl, p, [.ref q, .int i, .int d], 2, 2, rfl, rfl, g.at_, rfl, ?_⟩
  refine ⟨.int (d % 5), rfl, ?_⟩
  show D.rt (.int (d % 5)) (L2.upd H1 p (PenO q i (d / 5)))
  rw [hD]
  exact hq _ _ (d / 5) a1 a2 (g.trans (Gr.upd g.at_))
theorem ok_draw {f f1 : Addr} {fd fd1 : FuncData} {k : Nat} (Wp : Wr K mg CV fns gls exs M) (Fu : Fun K "_law_draw" "_law_draw" sDraw f fd) (C1 : Cal K mg "_law_next" sNext ["pen"] f1 fd1) : FnOk Pr w K mg base (L2.CX Pr w) (k + 2) f fd ["pen", "under"] spDraw := by
  refine Fu.okX scDraw (fun vs H Q E h => by obtain ⟨p, q, i, d, ms, e, _⟩ := h; rw [e]; rfl) fun cdv A outer s H vs Q E hr h => ⟨_,
    pss_cons (ps_if (pt_cmpR op_lt (pe_ix ix_list (pe_var (i := 0) rfl (.inl rfl)) pe_int (fun _ _ => rfl)) (pe_var (i := 1) rfl (.inl rfl)) rfl)
      (pss_one (ps_asg (pe_call (ok_next (k := k) (w := w) (base := base) Wp C1.fu) hr rfl C1.mg C1.fu.kp C1.b .nil passL (pa_cons (pe_var (i := 0) rfl (.inl rfl)) pa_nil)) (pg_sub (pe_var (i := 0) rfl (.inl rfl)) pe_int set_list))) pss_nil)
    (pss_cons (ps_set (i := 2) scDraw.nd rfl (.inl rfl) (pe_op op_mod (pe_callTy call_int1 rfl (Wp.bt "int" (by decide)) rfl (pa_cons (pe_ix ix_list (pe_var (i := 0) rfl (.inl rfl)) pe_int (fun _ _ => rfl)) pa_nil)) (pe_var (i := 1) rfl (.inl rfl))))
    (pss_cons (ps_asg (pe_op op_fdivW (pe_ix ix_list (pe_var (i := 0) rfl (.inl rfl)) pe_int (fun _ _ => rfl)) (pe_var (i := 1) rfl (.inl rfl))) (pg_sub (pe_var (i := 0) rfl (.inl rfl)) pe_int set_list))
    (pss_one (ps_ret (pe_var (i := 2) rfl (.inl rfl)))))), ?_⟩
  obtain ⟨p, q, i, d, ms, rfl, pn, hi, hi2, hq⟩ := h
  refine ⟨.ref p, rfl, p, [.ref q, .int i, .int d], 2, .int d, rfl, rfl, SqL.of pn.p, rfl, .int 5, rfl, d, 5, rfl, rfl, _, rfl, ?_⟩
  cases hb : decide (d < 5) with
  | false => exact Dz.iteF (draw_end (K := K) (Gr.refl pn.p) rfl fun z H' d' h1 h2 g => hq z H' i d' h1 h2 (Int.le_refl _) (by omega) g)
  | true =>
    refine Dz.iteT ⟨.ref p, rfl, p, q, i, d, ms, rfl, pn, hi, hi2, fun z H1 g1 => ?_⟩
    refine ⟨.ref p, rfl, p, [.ref q, .int (i + 1), .int d], 2, 2, rfl, rfl, g1.at_, rfl, ?_⟩
    exact draw_end (K := K) (H1 := L2.upd H1 p (PenO q (i + 1) z)) (g1.trans (Gr.upd g1.at_)) rfl fun z H' d' h1 h2 g => hq z H' (i + 1) d' h1 h2 (by omega) (Int.le_refl _) g
end K02

namespace K02
open PySem L2 Dz PyProof.Rows
variable {w : World} {K : PySem.W.Frag} {mg : Str → Option Value} {base : Heap} {CV : Nat → Value}
abbrev sSigns : Stmt := top 28
theorem scSigns : FnScope ["pen"] ["pen"] (defScope sSigns) := scB_ok (by decide +kernel)
def SG : Nat → List V
  | 0 => [.str "a", .str "f"]
  | 1 => [.str "f", .str "a", .str "b"]
  | 2 => [.str "a"]
  | 3 => [.str "a", .str "f", .str "g"]
  | _ => [.str "abcdefgh", .str "z"]
def spSigns : Sp := fun vs H Q _ => ∃ p q i d ms, vs = [.ref p] ∧ Pen H p q i d ms ∧ 0 ≤ i ∧ i ≤ 1000 ∧ ∀ (j : Nat) H' a i' d', j < 5 → H' a = some (.lst (SG j)) → a ≠ p → i ≤ i' → i' ≤ i + 1 → Gr H H' p (PenO q i' d') → Q (.ref a) H'
/-- one more list -/
theorem Gr.more {H H' : Hp} {p r : Addr} {o u : HO} (g : Gr H H' p o) (hr : H' r = none) : Gr H (L2.upd H' r u) p o ∧ r ≠ p ∧ (L2.upd H' r u) r = some u ∧ ∀ a v, H' a = some v → (L2.upd H' r u) a = some v := ⟨g.laid hr, (fun z => by have := z ▸ hr; rw [g.at_] at this; cases this), upd_same, (fun a v e => by rw [upd_ne (ne_of_none e hr)]; exact e)⟩
theorem ok_signs {f f1 f2 : Addr} {fd fd1 fd2 : FuncData} {k : Nat} (Wp : Wr K mg CV fns gls exs M) (Fu : Fun K "_law_signs" "_law_signs" sSigns f fd) (C1 : Cal K mg "_law_next" sNext ["pen"] f1 fd1) (C2 : Cal K mg "_law_draw" sDraw ["pen", "under"] f2 fd2) : FnOk Pr w K mg base (L2.CX Pr w) (k + 3) f fd ["pen"] spSigns := by
  refine Fu.okX scSigns (fun vs H Q E h => by obtain ⟨p, q, i, d, ms, e, _⟩ := h; rw [e]; rfl) fun cdv A outer s H vs Q E hr h => ⟨_,
    pss_one (ps_ret (pe_ix ix_list (pe_lst (pa_cons (pe_lst (pa_cons pe_str (pa_cons pe_str pa_nil))) (pa_cons (pe_lst (pa_cons pe_str (pa_cons pe_str (pa_cons pe_str pa_nil)))) (pa_cons (pe_lst (pa_cons pe_str pa_nil)) (pa_cons (pe_lst (pa_cons pe_str (pa_cons pe_str (pa_cons pe_str pa_nil)))) (pa_cons (pe_lst (pa_cons pe_str (pa_cons pe_str pa_nil))) pa_nil))))))
      (pe_call (ok_draw (k := k) (w := w) (base := base) Wp C2.fu C1) hr rfl C2.mg C2.fu.kp C2.b .nil passL (pa_cons (pe_var (i := 0) rfl (.inl rfl)) (pa_cons pe_int pa_nil))) (fun _ _ => rfl))), ?_⟩
  obtain ⟨p, q, i, d, ms, rfl, pn, hi, hi2, hq⟩ := h
  have sz : ∀ n : Nat, n ≤ 9 → n ≤ sizeLine := fun n h => by rw [sizeLine_eq]; omega
  have g0 := Gr.refl pn.p
  refine ⟨sz 2 (by decide), fun r0 h0 => ?_⟩
  obtain ⟨g1, n0, e0, k1⟩ := g0.more (u := .lst [.str "a", .str "f"]) h0
  refine ⟨sz 3 (by decide), fun r1 h1 => ?_⟩
  obtain ⟨g2, n1, e1, k2⟩ := g1.more (u := .lst [.str "f", .str "a", .str "b"]) h1
  refine ⟨sz 1 (by decide), fun r2 h2 => ?_⟩
  obtain ⟨g3, n2, e2, k3⟩ := g2.more (u := .lst [.str "a"]) h2
  refine ⟨sz 3 (by decide), fun r3 h3 => ?_⟩
  obtain ⟨g4, n3, e3, k4⟩ := g3.more (u := .lst [.str "a", .str "f", .str "g"]) h3
  refine ⟨sz 2 (by decide), fun r4 h4 => ?_⟩
  obtain ⟨g5, n4, e4, k5⟩ := g4.more (u := .lst [.str "abcdefgh", .str "z"]) h4
  refine ⟨sz 5 (by decide), fun r5 h5 => ?_⟩
  obtain ⟨g6, n5, e5, k6⟩ := g5.more (u := .lst [.ref r0, .ref r1, .ref r2, .ref r3, .ref r4]) h5
  have f0 := k6 _ _ (k5 _ _ (k4 _ _ (k3 _ _ (k2 _ _ e0))))
  have f1 := k6 _ _ (k5 _ _ (k4 _ _ (k3 _ _ e1)))
  have f2 := k6 _ _ (k5 _ _ (k4 _ _ e2))
  have f3 := k6 _ _ (k5 _ _ e3)
  have f4 := k6 _ _ e4
  have pq := k6 _ _ (k5 _ _ (k4 _ _ (k3 _ _ (k2 _ _ (k1 _ _ pn.q)))))
  refine ⟨.ref p, rfl, p, q, i, d, ms, rfl, ⟨g6.at_, pq⟩, hi, hi2, fun z H' i' d' z1 z2 i1 i2 g => ?_⟩
  have fin : ∀ (j : Nat) (r : Addr), j < 5 → z = (j : Int) → [V.ref r0, V.ref r1, V.ref r2, V.ref r3, V.ref r4][j]? = some (.ref r) → r ≠ p → H' r = some (.lst (SG j)) → rIxL K (.ref r5) (.int z) H' Q := fun j r hj hz hr' hn hs =>
    ⟨r5, _, z, .ref r, rfl, rfl, SqL.of (g.keep _ _ n5 e5), by rw [hz]; exact atI_nat hr', hq j H' r i' d' hj hs hn i1 i2 (g6.trans g)⟩
  rcases (by omega : z = ((0 : Nat) : Int) ∨ z = ((1 : Nat) : Int) ∨ z = ((2 : Nat) : Int) ∨ z = ((3 : Nat) : Int) ∨ z = ((4 : Nat) : Int)) with h | h | h | h | h
  · exact fin 0 r0 (by decide) h rfl n0 (g.keep _ _ n0 f0)
  · exact fin 1 r1 (by decide) h rfl n1 (g.keep _ _ n1 f1)
  · exact fin 2 r2 (by decide) h rfl n2 (g.keep _ _ n2 f2)
  · exact fin 3 r3 (by decide) h rfl n3 (g.keep _ _ n3 f3)
  · exact fin 4 r4 (by decide) h rfl n4 (g.keep _ _ n4 f4)
end K02

set_option maxHeartbeats 0
namespace K02
open PySem L2 Dz
theorem lap0 : lapB (lapR sg0) = true := by decide +kernel
end K02
set_option maxHeartbeats 4100000

set_option maxHeartbeats 0
namespace K02
open PySem L2 Dz
theorem lap1 : lapB (lapR sg1) = true := by decide +kernel
end K02
set_option maxHeartbeats 4100000

set_option maxHeartbeats 0
namespace K02
open PySem L2 Dz
theorem lap2 : lapB (lapR sg2) = true := by decide +kernel
end K02
set_option maxHeartbeats 4100000

set_option maxHeartbeats 0
namespace K02
open PySem L2 Dz
theorem lap3 : lapB (lapR sg3) = true := by decide +kernel
end K02
set_option maxHeartbeats 4100000

set_option maxHeartbeats 0
namespace K02
open PySem L2 Dz
theorem lap4 : lapB (lapR sg4) = true := by decide +kernel
end K02
set_option maxHeartbeats 4100000

namespace K02
open PySem L2 Dz PyProof.Rows
variable {w : World} {K : PySem.W.Frag} {mg : Str → Option Value} {base : Heap} {CV : Nat → Value}
abbrev sLaw : Stmt := top 31
theorem scLaw : FnScope NL ["script"] (defScope sLaw) := scB_ok (by decide +kernel)
abbrev lapBody : List Stmt := match defBody sLaw with | [_, .For _ _ b _ _, _] => b | _ => []
theorem k_lap : (c_lap.ck T NL true (defScope sLaw)).l (lapBody.tail) = true := by decide +kernel
theorem goodE_E {r : RE} (h : goodE r = true) : ∃ t m, r = .ok (.bl true) t m := by
  cases r with
  | ok v t m =>
    cases v with
    | bl b =>
      have z : b = true := h
      rw [z]; exact ⟨t, m, rfl⟩
    | _ => cases h
  | _ => cases h
theorem llen_eq : ∀ l : LL, llen l = (LLs l).length
  | .nil => rfl
  | .un r => congrArg Nat.succ (llen_eq r)
  | .as _ r => congrArg Nat.succ (llen_eq r)
theorem penB_E {l : LL} (h : penB l = true) : (LLs l)[1]? = some (some (.cst 0)) := by
  have one : ∀ (r : LL), (LL.rec (motive := fun _ => Bool) false (fun _ _ => false) (fun x _ _ => onCst false (fun n => Nat.beq n 0) x) r) = true → (LLs r)[0]? = some (some (.cst 0)) := fun r h => by
    cases r with
    | nil => cases h
    | un r => cases h
    | as x r =>
      cases x with
      | cst n =>
        have z : n = 0 := Nat.eq_of_beq_eq_true h
        rw [z]; rfl
      | _ => cases h
  cases l with
  | nil => cases h
  | un r => exact one r h
  | as x r => exact one r h
theorem lapB_E {r : RS} (h : lapB r = true) : ∃ l t m, r = .nx l t m ∧ (LLs l)[1]? = some (some (.cst 0)) ∧ (LLs l).length = 9 := by
  cases r with
  | nx l t m =>
    have h' : andB (penB l) (Nat.beq (llen l) 9) = true := h
    have h1 : penB l = true := by
      cases z : penB l with
      | true => rfl
      | false => rw [z] at h'; cases h'
    have h2 : Nat.beq (llen l) 9 = true := by rw [h1] at h'; exact h'
    exact ⟨l, t, m, rfl, penB_E h1, by rw [← llen_eq]; exact Nat.eq_of_beq_eq_true h2⟩
  | _ => cases h
def sg : Nat → EV
  | 0 => sg0
  | 1 => sg1
  | 2 => sg2
  | 3 => sg3
  | _ => sg4
theorem lap (j : Nat) (h : j < 5) : lapB (lapR (sg j)) = true := by
  match j, h with
  | 0, _ => exact lap0
  | 1, _ => exact lap1
  | 2, _ => exact lap2
  | 3, _ => exact lap3
  | 4, _ => exact lap4
def Y0 (w : World) (p : Addr) : Fix := ⟨w, fun _ => .ref p, fun _ => 0, fun _ => ""⟩
theorem rl_sg {Y : Fix} {ρ : Pl} {m : Nat} {H : Hp} (j : Nat) (h : j < 5) : RL Y ρ m H (sg j) (SG j) := by
  match j, h with
  | 0, _ => exact ⟨_, _, rfl, ⟨_, rfl, rfl⟩, _, _, rfl, ⟨_, rfl, rfl⟩, rfl⟩
  | 1, _ => exact ⟨_, _, rfl, ⟨_, rfl, rfl⟩, _, _, rfl, ⟨_, rfl, rfl⟩, _, _, rfl, ⟨_, rfl, rfl⟩, rfl⟩
  | 2, _ => exact ⟨_, _, rfl, ⟨_, rfl, rfl⟩, rfl⟩
  | 3, _ => exact ⟨_, _, rfl, ⟨_, rfl, rfl⟩, _, _, rfl, ⟨_, rfl, rfl⟩, _, _, rfl, ⟨_, rfl, rfl⟩, rfl⟩
  | 4, _ => exact ⟨_, _, rfl, ⟨_, rfl, rfl⟩, _, _, rfl, ⟨_, rfl, rfl⟩, rfl⟩
/-- the law's own def -/
def spLaw (K : PySem.W.Frag) : Sp := fun vs H Q _ => ∃ (a : Addr) (ns : List Int), vs = [.ref a] ∧ SqL K H a (ns.map V.int) ∧ ∀ H', Q (.bl true) H'
/-- what stands at the turn i -/
def Turn (i : Nat) (σ : L2.St) (H : Hp) : Prop := ∃ p q j d ms, σ.length = 9 ∧ σ[1]? = some (some (.ref p)) ∧ Pen H p q j d ms ∧ 0 ≤ j ∧ j ≤ (i : Int)
/-- one lap, behind the signs -/
theorem lap_end {i : Nat} {D : Ends} {σ : L2.St} {H : Hp} {W : WX} {p q a : Addr} {j : Int} {d : Int} {ms : List Int} {n : Nat} (hn : n < 5) (hl : σ.length = 9) (h1 : σ[1]? = some (some (.ref p))) (h3 : σ[3]? = some (some (.ref a))) (pn : Pen H p q j d ms) (j0 : 0 ≤ j) (j1 : j ≤ (i : Int))
    (ha : H a = some (.lst (SG n))) (hap : a ≠ p) (haq : a ≠ q) (hD : D.nx = Turn i) : tS (Y0 w p) CV W (c_lap.den (F 20) (nthG gls) M) D σ H := by
  have s : S (Y0 w p) (fun _ => a) 1 (h0 (sg n)) H := ⟨fun x y hx hy _ => by omega, fun x hx => by
    have e : x = 0 := by omega
    rw [e]
    exact ⟨_, rfl, SG n, ha, rl_sg n hn⟩⟩
  refine ⟨l0, h0 (sg n), 1, fun _ => a, s, ⟨hl, fun x v e => ?_⟩, ?_⟩
  · match x, e with
    | 1, e => cases e; exact ⟨_, h1, rfl⟩
    | 3, e => cases e; exact ⟨_, h3, Nat.one_pos, rfl⟩
    | 0, e => cases e
    | 2, e => cases e
    | 4, e => cases e
    | 5, e => cases e
    | 6, e => cases e
    | 7, e => cases e
    | 8, e => cases e
    | x + 9, e => cases e
  · obtain ⟨l, t, m, er, e1, el⟩ := lapB_E (lap n hn)
    have er' : c_lap.den (F 20) (nthG gls) M l0 (h0 (sg n)) 1 = .nx l t m := er
    rw [er']
    intro ρ' H' σ' x s' lr
    rw [hD]
    obtain ⟨v, g1, g2⟩ := lr.get 1 _ e1
    have off : ∀ b, a ≠ b → Off (fun _ => a) 1 b := fun b hb i _ z => hb z
    exact ⟨p, q, j, d, ms, lr.len.trans el, by rw [g1]; exact congrArg (fun z => some (some z)) g2, ⟨x.keep _ _ pn.p (off p hap), x.keep _ _ pn.q (off q haq)⟩, j0, j1⟩

theorem pss_all {X : Cx} {l : List Stmt} {t : Fix → TS} (h : ∀ Y, PSs X l (t Y)) : PSs X l (fun D σ H => ∃ Y, t Y D σ H) := ⟨fun pins s σ H D I q => q.elim fun Y q => (h Y).run pins s σ H D I q⟩
theorem sg_ne (n : Nat) (ms : List Int) : SG n ≠ ms.map V.int := fun z => by
  have e : (SG n).head? = (ms.map V.int).head? := by rw [z]
  cases ms with
  | nil => match n, e with
    | 0, e => cases e
    | 1, e => cases e
    | 2, e => cases e
    | 3, e => cases e
    | x + 4, e => cases e
  | cons m ms => match n, e with
    | 0, e => cases e
    | 1, e => cases e
    | 2, e => cases e
    | 3, e => cases e
    | x + 4, e => cases e
end K02

set_option maxHeartbeats 0
namespace K02
open PySem L2 Dz
def shd : Sc → Sc
  | .seq a _ => a
  | x => x
def stl : Sc → Sc
  | .seq _ b => b
  | x => x
def u3 : LL := .un (.un (.un .nil))
def told : EV := .cons (.int 1) (.cons (.int 1) (.cons (.int 2) (.cons (.int 4) (.cons (.int 9) (.cons (.int 20) (.cons (.int 48) (.cons (.int 115) .nil)))))))
def look (h : Option EO) (e : EV) : Bool := match h with
  | some (.lst xs) => decide (xs = e)
  | _ => false
/-- the slot 0 holds a list that is e -/
noncomputable def toldB (e : EV) : RS → Bool
  | .nx (.as (.ref a) (.un (.un .nil))) h _ => look (tget h a) e
  | .nx (.as (.ref a) (.as _ (.un .nil))) h _ => look (tget h a) e
  | _ => false
noncomputable def nx3 (r : RS) : Bool := RS.rec (motive := fun _ => Bool) (fun l _ _ => Nat.beq (llen l) 3) (fun _ _ _ => false) (fun _ _ _ => false) (fun _ _ _ => false) (fun _ _ _ _ _ => false) false r
noncomputable def rt3 (r : RS) : Bool := RS.rec (motive := fun _ => Bool) (fun _ _ _ => false) (fun v _ _ => onBl false (fun b => b) v) (fun _ _ _ => false) (fun _ _ _ => false) (fun _ _ _ _ _ => false) false r
def cT : Nat → Sc
  | 0 => c__law_typed_right
  | n + 1 => stl (cT n)
def c1 : Sc := shd (cT 0)
def c2 : Sc := shd (cT 1)
def c3 : Sc := shd (cT 2)
def c4 : Sc := cT 3
noncomputable def tR (c : Sc) : RS := c.den (F 19) (nthG gls) M u3 .leaf 0
noncomputable def tR2 (c : Sc) : RS := c.den (F 19) (nthG gls) M (.as (.ref 0) (.un (.un .nil))) (h0 told) 1
end K02
set_option maxHeartbeats 4100000

set_option maxHeartbeats 0
namespace K02
open PySem L2 Dz
theorem z1 : toldB told (tR c1) = true := by decide +kernel
end K02
set_option maxHeartbeats 4100000

set_option maxHeartbeats 0
namespace K02
open PySem L2 Dz
theorem z2 : nx3 (tR2 c2) = true := by decide +kernel
end K02
set_option maxHeartbeats 4100000

set_option maxHeartbeats 0
namespace K02
open PySem L2 Dz
theorem z3 : nx3 (tR c3) = true := by decide +kernel
end K02
set_option maxHeartbeats 4100000

set_option maxHeartbeats 0
namespace K02
open PySem L2 Dz
theorem z4 : rt3 (tR c4) = true := by decide +kernel
end K02
set_option maxHeartbeats 4100000

namespace K02
open PySem L2 Dz PyProof.Rows
variable {w : World} {K : PySem.W.Frag} {mg : Str → Option Value} {base : Heap} {CV : Nat → Value}
abbrev sT : Stmt := top 30
abbrev NT : List Str := ["told", "total", "many"]
theorem scT : FnScope NT [] (defScope sT) := scB_ok (by decide +kernel)
def spT : Sp := fun vs H Q _ => vs = [] ∧ ∀ H', Q (.bl true) H'
abbrev sTi (i : Nat) : Stmt := (defBody sT).getD i (.Pass ⟨0, 0, 0, 0⟩)
theorem k1 : (c1.ck T NT false (defScope sT)).s (sTi 0) = true := by decide +kernel
theorem k2 : (c2.ck T NT false (defScope sT)).s (sTi 1) = true := by decide +kernel
theorem k3 : (c3.ck T NT false (defScope sT)).s (sTi 2) = true := by decide +kernel
theorem k4 : (c4.ck T NT false (defScope sT)).l ((defBody sT).drop 3) = true := by decide +kernel
theorem ps_all {X : Cx} {l : Stmt} {t : Fix → TS} (h : ∀ Y, PS X l (t Y)) : PS X l (fun D σ H => ∃ Y, t Y D σ H) := ⟨fun pins s σ H D I q => q.elim fun Y q => (h Y).run pins s σ H D I q⟩

theorem s_nil {Y : Fix} {H : Hp} : S Y (fun _ => 0) 0 .leaf H := ⟨fun x y hx _ _ => by omega, fun x hx => by omega⟩
theorem lr_u3 {Y : Fix} {ρ : Pl} {m : Nat} {H : Hp} {σ : L2.St} (h : σ.length = 3) : LR Y ρ m H u3 σ := ⟨h, fun x v e => by
  match x, e with
  | 0, e => cases e
  | 1, e => cases e
  | 2, e => cases e
  | x + 3, e => cases e⟩
theorem nx3_E {r : RS} (h : nx3 r = true) : ∃ l t m, r = .nx l t m ∧ (LLs l).length = 3 := by
  cases r with
  | nx l t m => exact ⟨l, t, m, rfl, by rw [← llen_eq]; exact Nat.eq_of_beq_eq_true h⟩
  | _ => cases h
theorem rt3_E {r : RS} (h : rt3 r = true) : ∃ t m, r = .ret (.bl true) t m := by
  cases r with
  | ret v t m =>
    cases v with
    | bl b =>
      have z : b = true := h
      rw [z]; exact ⟨t, m, rfl⟩
    | _ => cases h
  | _ => cases h
theorem look_E {o : Option EO} {e : EV} (h : look o e = true) : o = some (.lst e) := by
  unfold look at h
  split at h
  · rw [of_decide_eq_true h]
  · cases h
theorem toldB_E {e : EV} {r : RS} (h : toldB e r = true) : ∃ l t m a, r = .nx l t m ∧ (LLs l).length = 3 ∧ (LLs l)[0]? = some (some (.ref a)) ∧ tget t a = some (.lst e) := by
  unfold toldB at h
  split at h
  · exact ⟨_, _, _, _, rfl, rfl, rfl, look_E h⟩
  · exact ⟨_, _, _, _, rfl, rfl, rfl, look_E h⟩
  · cases h
theorem rl_told {Y Y' : Fix} {ρ ρ' : Pl} {m m' : Nat} {H H' : Hp} {vs : List V} (h : RL Y ρ m H told vs) : RL Y' ρ' m' H' told vs := by
  obtain ⟨_, _, rfl, h1, _, _, rfl, h2, _, _, rfl, h3, _, _, rfl, h4, _, _, rfl, h5, _, _, rfl, h6, _, _, rfl, h7, _, _, rfl, h8, h9⟩ := h
  exact ⟨_, _, rfl, h1, _, _, rfl, h2, _, _, rfl, h3, _, _, rfl, h4, _, _, rfl, h5, _, _, rfl, h6, _, _, rfl, h7, _, _, rfl, h8, h9⟩
theorem ok_typed {f : Addr} {fd : FuncData} (Wp : Wr K mg CV fns gls exs M) (Fu : Fun K "_law_typed_right" "_law_typed_right" sT f fd) : FnOk Pr w K mg base (L2.CX Pr w) 20 f fd [] spT := by
  refine Fu.okX (k := 19) scT (fun vs H Q E h => by rw [h.1]; rfl) fun cdv A outer s H vs Q E hr h => ?_
  have cs := fun (Y : Fix) => cs_of (Y := Y) (P := Pr) (w := w) (base := base) (outer := outer) (s := s) (H := H) (E := E) (f := f) (cdv := cdv) (A := A) (qual := "_law_typed_right") (gd := false) Wp scT (okAll (w := w) (base := base) (P := Pr) (Y := Y) Wp k_all 19) hr (fun z => nomatch z)
  have p1 := ps_all fun Y => (sndS (Y := Y) (F := F 19) (G := nthG gls) (T := T) (CV := CV) c1).s (cs Y) k1
  have p2 := ps_all fun Y => (sndS (Y := Y) (F := F 19) (G := nthG gls) (T := T) (CV := CV) c2).s (cs Y) k2
  have p3 := ps_all fun Y => (sndS (Y := Y) (F := F 19) (G := nthG gls) (T := T) (CV := CV) c3).s (cs Y) k3
  have p4 := pss_all fun Y => (sndS (Y := Y) (F := F 19) (G := nthG gls) (T := T) (CV := CV) c4).l (cs Y) k4
  refine ⟨_, pss_cons p1 (pss_cons p2 (pss_cons p3 p4)), ?_⟩
  obtain ⟨rfl, hq⟩ := h
  obtain ⟨l1, t1, m1, a, e1, n1, g1, o1⟩ := toldB_E z1
  obtain ⟨l2, t2, m2, e2, n2⟩ := nx3_E z2
  obtain ⟨l3, t3, m3, e3, n3⟩ := nx3_E z3
  obtain ⟨t4, m4, e4⟩ := rt3_E z4
  refine ⟨Y0 w 0, u3, .leaf, 0, fun _ => 0, s_nil, lr_u3 rfl, ?_⟩
  rw [show Sc.den (F 19) (nthG gls) T.em c1 u3 .leaf 0 = .nx l1 t1 m1 from e1]
  intro ρ1 H1 σ1 x1 s1 lr1
  obtain ⟨v, gv, rv⟩ := lr1.get 0 _ g1
  obtain ⟨am, rfl⟩ := rv
  obtain ⟨o, eo, ro⟩ := s1.obj a am
  rw [o1] at eo
  cases eo
  obtain ⟨vs, hvs, rvs⟩ := ro
  refine ⟨Y0 w 0, .as (.ref 0) (.un (.un .nil)), h0 told, 1, fun _ => ρ1 a, ⟨fun x y hx hy _ => by omega, fun x hx => ?_⟩, ⟨lr1.len.trans n1, fun x v e => ?_⟩, ?_⟩
  · have e : x = 0 := by omega
    rw [e]
    exact ⟨_, rfl, vs, hvs, rl_told rvs⟩
  · match x, e with
    | 0, e => cases e; exact ⟨_, gv, Nat.one_pos, rfl⟩
    | 1, e => cases e
    | 2, e => cases e
    | x + 3, e => cases e
  rw [show Sc.den (F 19) (nthG gls) T.em c2 (.as (.ref 0) (.un (.un .nil))) (h0 told) 1 = .nx l2 t2 m2 from e2]
  intro ρ2 H2 σ2 x2 s2 lr2
  refine ⟨Y0 w 0, u3, .leaf, 0, fun _ => 0, s_nil, lr_u3 (lr2.len.trans n2), ?_⟩
  rw [show Sc.den (F 19) (nthG gls) T.em c3 u3 .leaf 0 = .nx l3 t3 m3 from e3]
  intro ρ3 H3 σ3 x3 s3 lr3
  refine ⟨Y0 w 0, u3, .leaf, 0, fun _ => 0, s_nil, lr_u3 (lr3.len.trans n3), ?_⟩
  rw [show Sc.den (F 19) (nthG gls) T.em c4 u3 .leaf 0 = .ret (.bl true) t4 m4 from e4]
  intro ρ4 H4 v x4 s4 rv
  have ev : v = .bl true := rv
  rw [ev]
  exact hq _
end K02

namespace K02
open PySem L2 Dz PyProof.Rows
variable {w : World} {K : PySem.W.Frag} {mg : Str → Option Value} {base : Heap} {CV : Nat → Value}
theorem ok_law {f fp fn fd fs ft : Addr} {dd dp dn ddr ds dt : FuncData} (Wp : Wr K mg CV fns gls exs M) (Fu : Fun K "law" "law" sLaw f dd)
    (Cp : Cal K mg "_law_pen" sPen ["script"] fp dp) (Cn : Cal K mg "_law_next" sNext ["pen"] fn dn) (Cd : Cal K mg "_law_draw" sDraw ["pen", "under"] fd ddr) (Cg : Cal K mg "_law_signs" sSigns ["pen"] fs ds) (Ct : Cal K mg "_law_typed_right" sT [] ft dt) :
    FnG Pr w K mg base (L2.CX Pr w) 21 f dd ["script"] (spLaw K) := by
  refine fnG_of (k := 20) Fu scLaw (fun vs H Q E h => by obtain ⟨a, ns, e, _⟩ := h; rw [e]; rfl) fun cdv A outer s H vs Q E hr hg h => ?_
  have okt := ok_typed (w := w) (base := base) Wp Ct.fu
  have r17 : Room 17 (A.deeper (envOfC "law" (defScope sLaw) s.heap.objs.size f cdv)) := hr.mono (by decide)
  have r19 : Room 19 (A.deeper (envOfC "law" (defScope sLaw) s.heap.objs.size f cdv)) := hr.mono (by decide)
  have tail := fun (Y : Fix) => (sndS (Y := Y) (F := F 20) (G := nthG gls) (T := T) (CV := CV) c_lap).l (cs_of (Y := Y) (P := Pr) (w := w) (base := base) (outer := outer) (s := s) (H := H) (E := E) (f := f) (cdv := cdv) (A := A) (qual := "law") (gd := true) Wp scLaw (okAll (w := w) (base := base) (P := Pr) (Y := Y) Wp k_all 20) hr (fun _ => hg)) k_lap
  refine ⟨_,
    pss_cons (ps_set (i := 1) scLaw.nd rfl (.inl rfl) (pe_call (ok_pen (k := 18) (w := w) (base := base) Wp Cp.fu) r19 rfl Cp.mg Cp.fu.kp Cp.b .nil passL (pa_cons (pe_var (i := 0) rfl (.inl rfl)) pa_nil)))
    (pss_cons (ps_for (passes_of rfl) rfl (pi_range1 rfl (Wp.bt "range" (by decide)) (pa_cons pe_int pa_nil)) (pg_name (i := 2) scLaw.nd rfl (.inl rfl))
      (pss_cons (ps_set (i := 3) scLaw.nd rfl (.inl rfl) (pe_call (ok_signs (k := 14) (w := w) (base := base) Wp Cg.fu Cn Cd) r17 rfl Cg.mg Cg.fu.kp Cg.b .nil passL (pa_cons (pe_var (i := 1) rfl (.inl rfl)) pa_nil)))
        (pss_all tail)))
    (pss_one (ps_ret (pe_call0 okt hr rfl Ct.mg Ct.fu.kp Ct.b .nil passL)))), ?_⟩
  obtain ⟨a, ns, rfl, hs, hq⟩ := h
  refine ⟨.ref a, rfl, a, ns, rfl, hs, fun H1 p q ms pn _ _ => ?_⟩
  refine ⟨4, rfl, by decide, by decide, ?_⟩
  refine for_range (lo := 0) (n := 4) Turn ⟨p, q, 0, 0, ms, rfl, rfl, pn, Int.le_refl _, Int.le_refl _⟩ (fun i σ H2 hi t => ?_) fun σ H2 t => ?_
  · obtain ⟨p, q, j, d, ms, el, e1, pn, j0, j1⟩ := t
    have el2 : (σ.set 2 (some (V.int (0 + (i : Int))))).length = 9 := by rw [List.length_set]; exact el
    have e2 : (σ.set 2 (some (V.int (0 + (i : Int)))))[1]? = some (some (.ref p)) := by rw [List.getElem?_set_ne (by decide)]; exact e1
    refine ⟨.ref p, e2, p, q, j, d, ms, rfl, pn, j0, by omega, fun n H3 b j' d' hn hb hbp i1 i2 g => ?_⟩
    have pq : H3 q = some (.lst (ms.map V.int)) := g.keep q _ pn.ne pn.q
    refine ⟨Y0 w p, lap_end (i := i + 1) (D := _) (p := p) (q := q) (a := b) (j := j') (d := d') (ms := ms) (n := n) hn ?_ ?_ ?_ ⟨g.at_, pq⟩ (by omega) (by omega) hb hbp (fun z => ?_) rfl⟩
    · rw [List.length_set]; exact el2
    · rw [List.getElem?_set_ne (by decide)]; exact e2
    · exact List.getElem?_set_self (by rw [el2]; decide)
    · rw [z, pq] at hb
      exact sg_ne n ms (by injection hb with hb; injection hb with hb; exact hb.symm)
  · exact ⟨rfl, fun _ => hq _⟩
end K02

set_option maxHeartbeats 0
namespace K02
open PySem L2 Dz PyProof.Rows
def df (p : Str × Nat) : He.DefD := ⟨(p.1, none), p.1, p.1, defArgs (top p.2), defBody (top p.2), defScope (top p.2), [], []⟩
def dfs : List (Str × Nat) := [("is_name", 2), ("is_number", 3), ("is_signs", 13), ("check_signs", 14), ("numbers_of_trees", 15), ("has_few", 16), ("check_few", 17), ("trees_of_size", 18), ("numbered_trees", 19), ("_longer_rows", 20), ("_law_size", 25), ("_law_rows", 26), ("_law_trees", 27), ("_law_is_refused", 29), ("_law_typed_right", 30), ("_law_pen", 22), ("_law_next", 23), ("_law_draw", 24), ("_law_signs", 28), ("law", 31)]
def fn : List He.DefD := dfs.map df
def fa : List He.Fa := dfs.map (fun p => .glo p.1) ++ (btn.map .free ++ ([.int "LONGEST_NAME" 8, .int "MOST_SIGNS" 8, .int "GREATEST_SIZE" 12, .int "MOST_TREES" 1000] ++ (exs.map .exc ++ (exs.map .glo ++ exs.map fun x => .exm x "TooMany" (decide (x = "TooMany"))))))
abbrev HR : PySem.W.OpenRow := PySem.W.OpenLaw.row PySem.Challenge.rw_broodcounts_k02_trees_of_a_size
abbrev qv : Program := PySem.W.view HR.prog [31]
def nm0 : List PySem.Str := ["LONGEST_NAME", "is_name", "is_number", "BroodError", "InvalidNumber", "InvalidSigns", "TooMany", "MOST_SIGNS", "GREATEST_SIZE", "MOST_TREES", "is_signs", "check_signs", "numbers_of_trees", "has_few", "check_few", "trees_of_size", "numbered_trees", "_longer_rows", "_law_pen", "_law_next"]
def nm1 : List PySem.Str := ["_law_draw", "_law_size", "_law_rows", "_law_trees", "_law_signs", "_law_is_refused", "_law_typed_right"]
def names : List PySem.Str := nm0 ++ nm1
abbrev hk : PySem.W.Hook := He.hookD 5 fa fn
def ob (s : PySem.W.SharedT) : He.AlD := He.obsDG 5 fa fn (HandSHeadRun.getT s)
theorem ob_eq (s : PySem.W.SharedT) : ob s = hk.obs s.abs := He.obsDG_eq (HandSHeadRun.getT_eq s)
theorem run (w : World) : HandSHeadRun.RunEq HR qv hk ob 20000 names w := by
  intro os
  kernel_rfl
end K02
set_option maxHeartbeats 4100000

namespace K02
open PySem L2 Dz PyProof.Rows
section
variable {w : World} {K : PySem.W.Frag} {mg : Str → Option Value} {h : Heap}
theorem fact_mem (c : He.SaysD fa fn K) {f : He.Fa} (m : f ∈ fa) : f.ok K = true := by
  obtain ⟨i, e⟩ := List.getElem?_of_mem m
  exact c.fact i e
theorem fun_of {x : Str} {st : Stmt} {f : Addr} {fd : FuncData} (F : FunD K x x (defArgs st) (defBody st) (defScope st) [] [] f fd) : Fun K x x st f fd := by
  obtain ⟨⟨oc, od, dV, kV, doc, pm, an, cdv, ct, osl, e, lk, hc, hD, hK⟩, kp⟩ := F
  rcases hD with ⟨_, rfl⟩ | ⟨n, _⟩
  · exact ⟨⟨oc, od, kV, doc, pm, an, cdv, ct, osl, e, lk, hc⟩, kp⟩
  · exact absurd rfl n
/-- a def of the table -/
theorem cal (c : He.SaysD fa fn K) (X : K.In h) (G : h.Ns mainGlobals mg) (i : Nat) {x : Str} {t : Nat} {ps : List Str} (e : dfs[i]? = some (x, t))
    (b : ∀ (kV doc pm : Value) (an : Option Addr) (cdv ct : Value) (us : List Value), us.length = ps.length → bindArgs (PySem.W.fnOf x x (defArgs (top t)) (defBody (top t)) (defScope (top t)) .none kV doc pm an cdv ct) ⟨us, []⟩ = pure (ps.zip us)) :
    ∃ fd, FunD K x x (defArgs (top t)) (defBody (top t)) (defScope (top t)) [] [] (He.ga K x) fd ∧ Cal K mg x (top t) ps (He.ga K x) fd := by
  obtain ⟨fd, F⟩ := c.def_ i (d := df (x, t)) (by show (dfs.map df)[i]? = _; rw [List.getElem?_map, e]; rfl)
  have F' : FunD K x x (defArgs (top t)) (defBody (top t)) (defScope (top t)) [] [] (He.ga K x) fd := F
  exact ⟨fd, F', fun_of F', He.glo_ok X G (fact_mem c (f := .glo x) (List.mem_append_left _ (List.mem_map.mpr ⟨_, List.mem_of_getElem? e, rfl⟩))), F'.bindsN b⟩
theorem free (c : He.SaysD fa fn K) (X : K.In h) (G : h.Ns mainGlobals mg) {x : Str} (m : x ∈ btn) : mg x = none := He.free_ok X G (fact_mem c (List.mem_append_right _ (List.mem_append_left _ (List.mem_map.mpr ⟨x, m, rfl⟩))))
theorem intg (c : He.SaysD fa fn K) (X : K.In h) (G : h.Ns mainGlobals mg) {x : Str} {i : Int} (m : He.Fa.int x i ∈ [He.Fa.int "LONGEST_NAME" 8, .int "MOST_SIGNS" 8, .int "GREATEST_SIZE" 12, .int "MOST_TREES" 1000]) : ∃ t, mg x = some (.int i t) := He.int_ok X G (fact_mem c (List.mem_append_right _ (List.mem_append_right _ (List.mem_append_left _ m))))
theorem excg (c : He.SaysD fa fn K) {x : Str} (m : x ∈ exs) : (He.Fa.exc x).ok K = true ∧ (He.Fa.glo x).ok K = true ∧ (He.Fa.exm x "TooMany" (decide (x = "TooMany"))).ok K = true :=
  ⟨fact_mem c (List.mem_append_right _ (List.mem_append_right _ (List.mem_append_right _ (List.mem_append_left _ (List.mem_map.mpr ⟨x, m, rfl⟩))))), fact_mem c (List.mem_append_right _ (List.mem_append_right _ (List.mem_append_right _ (List.mem_append_right _ (List.mem_append_left _ (List.mem_map.mpr ⟨x, m, rfl⟩)))))),
    fact_mem c (List.mem_append_right _ (List.mem_append_right _ (List.mem_append_right _ (List.mem_append_right _ (List.mem_append_right _ (List.mem_map.mpr ⟨x, m, rfl⟩))))))⟩
def CV0 (K : PySem.W.Frag) (c : Nat) : Value := .ref (He.ga K (exs.getD c ""))
theorem cv_at {c : Nat} {nm : Str} (e : exs[c]? = some nm) : CV0 K c = .ref (He.ga K nm) := by
  unfold CV0
  rw [List.getD_eq_getElem?_getD, e]; rfl
theorem b_is_name (kV doc pm : Value) (an : Option Addr) (cdv ct : Value) (us : List Value) (hl : us.length = (["thing"] : List Str).length) : bindArgs (PySem.W.fnOf "is_name" "is_name" (defArgs (top 2)) (defBody (top 2)) (defScope (top 2)) .none kV doc pm an cdv ct) ⟨us, []⟩ = pure ((["thing"] : List Str).zip us) := by
  match us, hl with | [_], _ => rfl
theorem b_is_number (kV doc pm : Value) (an : Option Addr) (cdv ct : Value) (us : List Value) (hl : us.length = (["thing", "low", "high"] : List Str).length) : bindArgs (PySem.W.fnOf "is_number" "is_number" (defArgs (top 3)) (defBody (top 3)) (defScope (top 3)) .none kV doc pm an cdv ct) ⟨us, []⟩ = pure ((["thing", "low", "high"] : List Str).zip us) := by
  match us, hl with | [_, _, _], _ => rfl
theorem b_is_signs (kV doc pm : Value) (an : Option Addr) (cdv ct : Value) (us : List Value) (hl : us.length = (["thing"] : List Str).length) : bindArgs (PySem.W.fnOf "is_signs" "is_signs" (defArgs (top 13)) (defBody (top 13)) (defScope (top 13)) .none kV doc pm an cdv ct) ⟨us, []⟩ = pure ((["thing"] : List Str).zip us) := by
  match us, hl with | [_], _ => rfl
theorem b_check_signs (kV doc pm : Value) (an : Option Addr) (cdv ct : Value) (us : List Value) (hl : us.length = (["signs"] : List Str).length) : bindArgs (PySem.W.fnOf "check_signs" "check_signs" (defArgs (top 14)) (defBody (top 14)) (defScope (top 14)) .none kV doc pm an cdv ct) ⟨us, []⟩ = pure ((["signs"] : List Str).zip us) := by
  match us, hl with | [_], _ => rfl
theorem b_numbers_of_trees (kV doc pm : Value) (an : Option Addr) (cdv ct : Value) (us : List Value) (hl : us.length = (["many", "most"] : List Str).length) : bindArgs (PySem.W.fnOf "numbers_of_trees" "numbers_of_trees" (defArgs (top 15)) (defBody (top 15)) (defScope (top 15)) .none kV doc pm an cdv ct) ⟨us, []⟩ = pure ((["many", "most"] : List Str).zip us) := by
  match us, hl with | [_, _], _ => rfl
theorem b_has_few (kV doc pm : Value) (an : Option Addr) (cdv ct : Value) (us : List Value) (hl : us.length = (["signs", "places"] : List Str).length) : bindArgs (PySem.W.fnOf "has_few" "has_few" (defArgs (top 16)) (defBody (top 16)) (defScope (top 16)) .none kV doc pm an cdv ct) ⟨us, []⟩ = pure ((["signs", "places"] : List Str).zip us) := by
  match us, hl with | [_, _], _ => rfl
theorem b_check_few (kV doc pm : Value) (an : Option Addr) (cdv ct : Value) (us : List Value) (hl : us.length = (["signs", "places"] : List Str).length) : bindArgs (PySem.W.fnOf "check_few" "check_few" (defArgs (top 17)) (defBody (top 17)) (defScope (top 17)) .none kV doc pm an cdv ct) ⟨us, []⟩ = pure ((["signs", "places"] : List Str).zip us) := by
  match us, hl with | [_, _], _ => rfl
theorem b_trees_of_size (kV doc pm : Value) (an : Option Addr) (cdv ct : Value) (us : List Value) (hl : us.length = (["signs", "size"] : List Str).length) : bindArgs (PySem.W.fnOf "trees_of_size" "trees_of_size" (defArgs (top 18)) (defBody (top 18)) (defScope (top 18)) .none kV doc pm an cdv ct) ⟨us, []⟩ = pure ((["signs", "size"] : List Str).zip us) := by
  match us, hl with | [_, _], _ => rfl
theorem b_numbered_trees (kV doc pm : Value) (an : Option Addr) (cdv ct : Value) (us : List Value) (hl : us.length = (["signs", "most"] : List Str).length) : bindArgs (PySem.W.fnOf "numbered_trees" "numbered_trees" (defArgs (top 19)) (defBody (top 19)) (defScope (top 19)) .none kV doc pm an cdv ct) ⟨us, []⟩ = pure ((["signs", "most"] : List Str).zip us) := by
  match us, hl with | [_, _], _ => rfl
theorem b__longer_rows (kV doc pm : Value) (an : Option Addr) (cdv ct : Value) (us : List Value) (hl : us.length = (["rows", "found"] : List Str).length) : bindArgs (PySem.W.fnOf "_longer_rows" "_longer_rows" (defArgs (top 20)) (defBody (top 20)) (defScope (top 20)) .none kV doc pm an cdv ct) ⟨us, []⟩ = pure ((["rows", "found"] : List Str).zip us) := by
  match us, hl with | [_, _], _ => rfl
theorem b__law_size (kV doc pm : Value) (an : Option Addr) (cdv ct : Value) (us : List Value) (hl : us.length = (["tree"] : List Str).length) : bindArgs (PySem.W.fnOf "_law_size" "_law_size" (defArgs (top 25)) (defBody (top 25)) (defScope (top 25)) .none kV doc pm an cdv ct) ⟨us, []⟩ = pure ((["tree"] : List Str).zip us) := by
  match us, hl with | [_], _ => rfl
theorem b__law_rows (kV doc pm : Value) (an : Option Addr) (cdv ct : Value) (us : List Value) (hl : us.length = (["lists", "most", "total"] : List Str).length) : bindArgs (PySem.W.fnOf "_law_rows" "_law_rows" (defArgs (top 26)) (defBody (top 26)) (defScope (top 26)) .none kV doc pm an cdv ct) ⟨us, []⟩ = pure ((["lists", "most", "total"] : List Str).zip us) := by
  match us, hl with | [_, _, _], _ => rfl
theorem b__law_trees (kV doc pm : Value) (an : Option Addr) (cdv ct : Value) (us : List Value) (hl : us.length = (["signs", "most"] : List Str).length) : bindArgs (PySem.W.fnOf "_law_trees" "_law_trees" (defArgs (top 27)) (defBody (top 27)) (defScope (top 27)) .none kV doc pm an cdv ct) ⟨us, []⟩ = pure ((["signs", "most"] : List Str).zip us) := by
  match us, hl with | [_, _], _ => rfl
theorem b__law_is_refused (kV doc pm : Value) (an : Option Addr) (cdv ct : Value) (us : List Value) (hl : us.length = (["signs", "total"] : List Str).length) : bindArgs (PySem.W.fnOf "_law_is_refused" "_law_is_refused" (defArgs (top 29)) (defBody (top 29)) (defScope (top 29)) .none kV doc pm an cdv ct) ⟨us, []⟩ = pure ((["signs", "total"] : List Str).zip us) := by
  match us, hl with | [_, _], _ => rfl
theorem b__law_typed_right (kV doc pm : Value) (an : Option Addr) (cdv ct : Value) (us : List Value) (hl : us.length = ([] : List Str).length) : bindArgs (PySem.W.fnOf "_law_typed_right" "_law_typed_right" (defArgs (top 30)) (defBody (top 30)) (defScope (top 30)) .none kV doc pm an cdv ct) ⟨us, []⟩ = pure (([] : List Str).zip us) := by
  match us, hl with | [], _ => rfl
theorem b__law_pen (kV doc pm : Value) (an : Option Addr) (cdv ct : Value) (us : List Value) (hl : us.length = (["script"] : List Str).length) : bindArgs (PySem.W.fnOf "_law_pen" "_law_pen" (defArgs (top 22)) (defBody (top 22)) (defScope (top 22)) .none kV doc pm an cdv ct) ⟨us, []⟩ = pure ((["script"] : List Str).zip us) := by
  match us, hl with | [_], _ => rfl
theorem b__law_next (kV doc pm : Value) (an : Option Addr) (cdv ct : Value) (us : List Value) (hl : us.length = (["pen"] : List Str).length) : bindArgs (PySem.W.fnOf "_law_next" "_law_next" (defArgs (top 23)) (defBody (top 23)) (defScope (top 23)) .none kV doc pm an cdv ct) ⟨us, []⟩ = pure ((["pen"] : List Str).zip us) := by
  match us, hl with | [_], _ => rfl
theorem b__law_draw (kV doc pm : Value) (an : Option Addr) (cdv ct : Value) (us : List Value) (hl : us.length = (["pen", "under"] : List Str).length) : bindArgs (PySem.W.fnOf "_law_draw" "_law_draw" (defArgs (top 24)) (defBody (top 24)) (defScope (top 24)) .none kV doc pm an cdv ct) ⟨us, []⟩ = pure ((["pen", "under"] : List Str).zip us) := by
  match us, hl with | [_, _], _ => rfl
theorem b__law_signs (kV doc pm : Value) (an : Option Addr) (cdv ct : Value) (us : List Value) (hl : us.length = (["pen"] : List Str).length) : bindArgs (PySem.W.fnOf "_law_signs" "_law_signs" (defArgs (top 28)) (defBody (top 28)) (defScope (top 28)) .none kV doc pm an cdv ct) ⟨us, []⟩ = pure ((["pen"] : List Str).zip us) := by
  match us, hl with | [_], _ => rfl
theorem b_law (kV doc pm : Value) (an : Option Addr) (cdv ct : Value) (us : List Value) (hl : us.length = (["script"] : List Str).length) : bindArgs (PySem.W.fnOf "law" "law" (defArgs (top 31)) (defBody (top 31)) (defScope (top 31)) .none kV doc pm an cdv ct) ⟨us, []⟩ = pure ((["script"] : List Str).zip us) := by
  match us, hl with | [_], _ => rfl
theorem wr (c : He.SaysD fa fn K) (X : K.In h) (G : h.Ns mainGlobals mg) : Wr K mg (CV0 K) fns gls exs M where
  fn := fun d hd => by
    simp only [fns, List.mem_cons, List.not_mem_nil, or_false] at hd
    rcases hd with rfl | rfl | rfl | rfl | rfl | rfl | rfl | rfl | rfl | rfl | rfl | rfl | rfl | rfl | rfl
    · obtain ⟨fd, _, C⟩ := cal c X G 0 rfl b_is_name
      exact ⟨_, fd, C.fu, C.mg, C.b⟩
    · obtain ⟨fd, _, C⟩ := cal c X G 1 rfl b_is_number
      exact ⟨_, fd, C.fu, C.mg, C.b⟩
    · obtain ⟨fd, _, C⟩ := cal c X G 2 rfl b_is_signs
      exact ⟨_, fd, C.fu, C.mg, C.b⟩
    · obtain ⟨fd, _, C⟩ := cal c X G 3 rfl b_check_signs
      exact ⟨_, fd, C.fu, C.mg, C.b⟩
    · obtain ⟨fd, _, C⟩ := cal c X G 4 rfl b_numbers_of_trees
      exact ⟨_, fd, C.fu, C.mg, C.b⟩
    · obtain ⟨fd, _, C⟩ := cal c X G 5 rfl b_has_few
      exact ⟨_, fd, C.fu, C.mg, C.b⟩
    · obtain ⟨fd, _, C⟩ := cal c X G 6 rfl b_check_few
      exact ⟨_, fd, C.fu, C.mg, C.b⟩
    · obtain ⟨fd, _, C⟩ := cal c X G 7 rfl b_trees_of_size
      exact ⟨_, fd, C.fu, C.mg, C.b⟩
    · obtain ⟨fd, _, C⟩ := cal c X G 8 rfl b_numbered_trees
      exact ⟨_, fd, C.fu, C.mg, C.b⟩
    · obtain ⟨fd, _, C⟩ := cal c X G 9 rfl b__longer_rows
      exact ⟨_, fd, C.fu, C.mg, C.b⟩
    · obtain ⟨fd, _, C⟩ := cal c X G 10 rfl b__law_size
      exact ⟨_, fd, C.fu, C.mg, C.b⟩
    · obtain ⟨fd, _, C⟩ := cal c X G 11 rfl b__law_rows
      exact ⟨_, fd, C.fu, C.mg, C.b⟩
    · obtain ⟨fd, _, C⟩ := cal c X G 12 rfl b__law_trees
      exact ⟨_, fd, C.fu, C.mg, C.b⟩
    · obtain ⟨fd, _, C⟩ := cal c X G 13 rfl b__law_is_refused
      exact ⟨_, fd, C.fu, C.mg, C.b⟩
    · obtain ⟨fd, _, C⟩ := cal c X G 14 rfl b__law_typed_right
      exact ⟨_, fd, C.fu, C.mg, C.b⟩
  gl := fun p hp => by
    simp only [gls, List.mem_cons, List.not_mem_nil, or_false] at hp
    rcases hp with rfl | rfl | rfl | rfl
    · obtain ⟨t, e⟩ := intg c X G (x := "LONGEST_NAME") (i := 8) (by simp)
      exact ⟨_, .int 8, e, ⟨t, rfl⟩, fun _ _ _ _ => rfl⟩
    · obtain ⟨t, e⟩ := intg c X G (x := "MOST_SIGNS") (i := 8) (by simp)
      exact ⟨_, .int 8, e, ⟨t, rfl⟩, fun _ _ _ _ => rfl⟩
    · obtain ⟨t, e⟩ := intg c X G (x := "GREATEST_SIZE") (i := 12) (by simp)
      exact ⟨_, .int 12, e, ⟨t, rfl⟩, fun _ _ _ _ => rfl⟩
    · obtain ⟨t, e⟩ := intg c X G (x := "MOST_TREES") (i := 1000) (by simp)
      exact ⟨_, .int 1000, e, ⟨t, rfl⟩, fun _ _ _ _ => rfl⟩
  bt := fun nm m => free c X G m
  ex := fun i nm e => by
    obtain ⟨h1, h2, _⟩ := excg c (List.mem_of_getElem? e)
    obtain ⟨e1, e2, e3, e4⟩ := He.exc_ok h1
    exact ⟨_, cv_at e, He.glo_ok X G h2, e1, e2, e3, e4⟩
  em := fun i d b e => by
    have e' : (Bool.rec (motive := fun _ => Option Bool) none (some (Nat.beq i d)) (andB (Nat.blt i 4) (Nat.beq d 3)) : Option Bool) = some b := e
    rw [andB_eq] at e'
    cases z : (Nat.blt i 4 && Nat.beq d 3) with
    | false => rw [z] at e'; cases e'
    | true =>
      rw [z] at e'
      obtain ⟨z1, z2⟩ := Bool.and_eq_true_iff.mp z
      have d3 : d = 3 := Nat.eq_of_beq_eq_true z2
      have i4 : i < 4 := Nat.le_of_ble_eq_true z1
      subst d3
      have eb : Nat.beq i 3 = b := Option.some.inj e'
      match i, i4 with
      | 0, _ => subst eb; exact He.exm_ok (excg c (x := "BroodError") (by simp [exs])).2.2
      | 1, _ => subst eb; exact He.exm_ok (excg c (x := "InvalidNumber") (by simp [exs])).2.2
      | 2, _ => subst eb; exact He.exm_ok (excg c (x := "InvalidSigns") (by simp [exs])).2.2
      | 3, _ => subst eb; exact He.exm_ok (excg c (x := "TooMany") (by simp [exs])).2.2
theorem facts {f : Addr} (X : K.In h) (G : h.Ns mainGlobals mg) (hfa : mg ("law" : Str) = some (.ref f)) (c : He.SaysD fa fn K) :
    ∃ fd : FuncData, (∀ (s : Shared) (v : Value), BindsTo s fd ⟨[v], []⟩ [("script", v)]) ∧ ∀ base : Heap, K.In base → base.Ns mainGlobals mg → FnG Pr w K mg base (L2.CX Pr w) 21 f fd ["script"] (spLaw K) := by
  obtain ⟨_, _, Cp⟩ := cal c X G 15 rfl b__law_pen
  obtain ⟨_, _, Cn⟩ := cal c X G 16 rfl b__law_next
  obtain ⟨_, _, Cd⟩ := cal c X G 17 rfl b__law_draw
  obtain ⟨_, _, Cg⟩ := cal c X G 18 rfl b__law_signs
  obtain ⟨_, _, Ct⟩ := cal c X G 14 rfl b__law_typed_right
  obtain ⟨fd, F, Cl⟩ := cal c X G 19 rfl b_law
  have e := hfa.symm.trans Cl.mg
  cases e
  have b := FunD.bindsA (ps := ["script"]) F b_law
  exact ⟨fd, fun s v => b s [v] rfl, fun base _ _ => ok_law (wr c X G) Cl.fu Cp Cn Cd Cg Ct⟩
end
end K02
open PySem PySem.W PySem.Calls PyProof.Rows
theorem PySem.Challenge.cw_broodcounts_k02_trees_of_a_size_holds : PySem.Challenge.rw_broodcounts_k02_trees_of_a_size.Holds := by
  w_on; o_law
  refine HandSHeadRun.head_any (r := OpenLaw.row PySem.Challenge.rw_broodcounts_k02_trees_of_a_size) (q := K02.qv) (H := K02.hk) (ob := K02.ob) (M := 20000) (loose := K02.names) (d := HandSHeadRun.topDef (OpenLaw.row PySem.Challenge.rw_broodcounts_k02_trees_of_a_size).prog 31) (kwd := []) K02.ob_eq
    (by kernel_rfl) (fun s => by kernel_rfl) K02.run (by kernel_rfl) (by kernel_rfl) (by kernel_rfl) (by rfl) (by first | assumption | decide +kernel) (by decide +kernel) ⟨rfl, rfl, rfl, rfl, rfl, by decide +kernel⟩ ?hw ?hc
  case hw => w_witness2
  case hc =>
    refine Dz.walk_ofG (l := PySem.Challenge.rw_broodcounts_k02_trees_of_a_size) (n := 63) (k := 21) (x := "script") rfl (by decide) (by kernel_rfl) ⟨rfl, by decide, by decide⟩ ?F
    intro w mg fa h Y G hmg0
    obtain ⟨K, KX, c⟩ := Y
    have hmg : mg ("law" : PySem.Str) = some (.ref fa) := by
      have e : (HandSHeadRun.topDef (OpenLaw.row PySem.Challenge.rw_broodcounts_k02_trees_of_a_size).prog 31).name = ("law" : PySem.Str) := by kernel_rfl
      rw [← e]
      exact hmg0
    obtain ⟨fd, hb, hF⟩ := K02.facts (w := w) KX G hmg c
    exact ⟨K, fd, K02.spLaw K, KX, hb, fun H a ns hl _ hS => ⟨a, ns, rfl, hS, fun _ => rfl⟩, hF⟩
