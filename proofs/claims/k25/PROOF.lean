import PyProof.Rows.All
import Wide.All
import OpenK.AllK
import Wide.FinOn
import KE.KExcIs
import KE.KExcStr
import KE.KIsAll
import HandS.Base
import HandS.Call
import HandS.List
import HandS.Exc
import HandS.ExcOwn
import HandS.ExcInit
import HandS.ExcValue
import HandS.ExcField
import HandS.IsInst
import HandS.ForMost
import HandS.TryOnly
import HandS.WordsExc
import HandS.Star
import HandS.Deep
import HandS.TupAny
import KE.KExcSuper
import PyProof.FString
import PyProof.FString4
import PyProof.AssignAttr
import PySem.Challenge.RW_broodcounts_k25_error_classes
set_option Elab.async false
set_option linter.all false
set_option maxRecDepth 100000
set_option maxHeartbeats 4100000
/-! errors as values: what was told when they were made stays known -/
namespace XV
open PySem PySem.Spec PyProof.Rows L2
/-- the object of an error of the class at C, its arguments in the tuple at t, its dict d -/
abbrev eob (C t : Addr) (d : Option Addr) : Obj := { cls := .ref C, dict := d, data := .fields #[.ref t, .none, .none, .none, .bool false, .none] }
/-- at a: such an error -/
def Erv (C t a : Addr) (d : Option Addr) : HO := .ext fun h => h.get? a = some (eob C t d)
section
variable {P : Program} {w : World} {H : Hp} {h : Heap} {C t a : Addr} {d : Option Addr}
theorem ev_ok (e : h.get? a = some (eob C t d)) : ObjOk P w H h a (Erv C t a d) := ⟨e, ⟨_, e⟩, fun _ _ q k => k _ q⟩
theorem ev_at (hok : HOk P w H h) (e : H a = some (Erv C t a d)) : h.get? a = some (eob C t d) := by
  have x : ObjOk P w H h a (.ext fun h => h.get? a = some (eob C t d)) := hok a _ e
  exact x.1
theorem ev_inst (hok : HOk P w H h) (e : H a = some (Erv C t a none)) : PySem.W.InstAt h a (eob C t none) C none := ⟨ev_at hok e, rfl, rfl, trivial⟩
end
/-- X(e), an own error class without own __init__, as a value: a new error whose argument is kept -/
def tErv (C : Addr) (ta : TE) : TE := fun σ H Q => ta σ H fun v H1 => ∀ t a, H1 t = none → H1 a = none → t ≠ a → Q (.ref a) (upd (upd H1 t (.tup [v])) a (Erv C t a none))
section
variable {X : Cx}
theorem pe_excV {C : Addr} {bmB : List Value} {B newId initId : String} {x : Str} {e : Expr} {ta : TE} {p pos : Pos} (F : ExcBaseFacts B newId initId bmB) (q : PySem.W.excIn X.K C bmB newId = true) (gC : X.mg x = some (.ref C)) (kC : PySem.W.keepIn X.K (.ref C) = true) (hg : Gl X x)
    (he : PE X e ta) (hs : starEach [e] X.env = (false, eval e X.env) :: starEach [] X.env := by rfl) (hdb : (x == ("__debug__" : Str)) = false := by decide) :
    PE X (.Call (.Name x p) [e] [] pos) (tErv C ta) := by
  refine ⟨fun pins s σ H Q I h => ?_⟩
  refine wpAny_Call_Name_kw (ld_glob I hg gC ?_ hdb)
  refine PySem.W.callWith_K (h₀ := X.base) I.ok.mod.kin kC ?_ hs (by rfl)
  rw [hs]
  show wpAny _ _ (spliced ((false, eval e X.env) :: backTo pos (starEach [] X.env))) _ _ s
  refine Calls.spliced_cons (thn (he.run pins s σ H _ I h) fun u s1 ⟨v, H1, I1, r1, q1⟩ => ?_)
  refine Calls.spliced_nil ⟨I1.kIn, ?_⟩
  show wpAny _ _ (call (.ref C) [u]) _ _ _
  obtain ⟨bm, N, nm, qn, bs, hdct, sn, sub, ab, col, dd, k0, k1, k2, k3, k5, mN, hC, hN, hni, T⟩ := exc_obj I1.kIn q
  refine wpAny_call_exc_subT F T hC hN hni (fun h' a hm => ?_) (by show 1 ≤ sizeLine; rw [sizeLine_eq]; omega)
  obtain ⟨t, ht, tn, tt⟩ := hm.there
  have hn : H1 a = none := I1.hok.gone hm.new
  have ht0 : H1 t = none := I1.hok.gone tn
  have hne : t ≠ a := fun z => by
    rw [z, ht] at tt
    cases tt
  obtain ⟨G, g1, g2⟩ := restrict h' fun b => decide (b ≠ a)
  have gk : ∀ b, b ≠ a → G.get? b = h'.get? b := fun b hb => g1 b (decide_eq_true hb)
  have ga : G.get? a = none := g2 a (by simp)
  have k1 : ∀ b o, s1.heap.get? b = some o → G.get? b = some o := fun b o z => by
    rw [gk b fun e => by rw [e, hm.new] at z; cases z]
    exact hm.keeps b o z
  have kG : ∀ b o, G.get? b = some o → h'.get? b = some o := fun b o z => by
    by_cases hb : b = a
    · rw [hb, ga] at z
      cases z
    · rw [← gk b hb]
      exact z
  have gt : G.get? t = some { cls := .type "tuple", data := .seq #[u] } := by
    rw [gk t hne]
    exact tt
  have J1 : Inv X pins σ (upd H1 t (.tup [v])) { s1 with heap := G } := I1.laidN (t' := s1.toks) k1 tn ht0 ⟨by show 1 ≤ sizeLine; rw [sizeLine_eq]; omega, [u], .cons r1 .nil, _, gt, rfl, _, rfl⟩
  have hn2 : (upd H1 t (.tup [v])) a = none := by rw [upd_ne (Ne.symm hne)]; exact hn
  have J2 : Inv X pins σ (upd (upd H1 t (.tup [v])) a (Erv C t a none)) { s1 with heap := h' } := J1.laidN (t' := s1.toks) kG ga hn2 (ev_ok ht)
  exact ⟨.ref a, _, J2, rfl, q1 t a ht0 hn hne⟩
/-- what a class of errors must say, so that isinstance and str answer rightly -/
structure EC (K : PySem.W.Frag) (C : Addr) : Prop where
  cl : (PySem.W.clsIn K C).isSome = true
  ga : PySem.W.findIn K (.ref C) "__getattribute__" = some (some (.builtin "BaseException.__getattribute__"))
  gg : PySem.W.findIn K (.ref C) "__getattr__" = some none
  sub : PySem.W.subIn K (.ref C) (.type "BaseException") = some true
  ca : PySem.W.findIn K (.ref C) "__class__" = some (some (.builtin "object.__class__"))
  cg : PySem.W.specialIn K (.builtin "object.__class__") "__get__" = some (some (.builtin "getset_descriptor.__get__"))
  ct : PySem.W.takesIn K (.builtin "object.__class__") = some true
  ob : PySem.W.mroIn K C (.type "object") = some true
  st : PySem.W.findIn K (.ref C) "__str__" = some (some (.builtin "BaseException.__str__"))
/-- isinstance(e, c) -/
def rIsV (K : PySem.W.Frag) : List V → Hp → VK → Prop := fun xs H Q => ∃ (a C t : Addr) (c : V) (cv : Value) (b : Bool), xs = [.ref a, c] ∧ H a = some (Erv C t a none) ∧ EC K C ∧ ClsV c cv ∧ PySem.W.kitOne K (.ref C) cv = some b ∧ Q (.bl b) H
theorem call_isV : CallR X (.builtin "isinstance") (rIsV X.K) := by
  intro pins s σ H xs us Q I r h
  obtain ⟨a, C, t, c, cv, b, rfl, ha, T, hcv, e, q⟩ := h
  obtain ⟨u1, u2, rfl, r1, r2⟩ := vals2 r
  cases (show u1 = Value.ref a from r1)
  have e2 := hcv.eq r2
  subst e2
  exact PySem.W.kia_one (PySem.W.kitx_exc T.cl T.ga T.gg T.sub T.ca T.cg T.ct T.ob) I.kIn (ev_inst I.hok ha) e (fun z => nomatch z) fun tk => ⟨.bl b, H, I.tok tk, rfl, q⟩
/-- the same of an error that has its dict -/
def rIsO (K : PySem.W.Frag) : List V → Hp → VK → Prop := fun xs H Q => ∃ (a C d : Addr) (fs : List (Str × V)) (c : V) (cv : Value) (b : Bool), xs = [.ref a, c] ∧ H a = some (exo a C (some d)) ∧ H d = some (exd d fs) ∧ EC K C ∧ ClsV c cv ∧ PySem.W.kitOne K (.ref C) cv = some b ∧ Q (.bl b) H
theorem call_isO : CallR X (.builtin "isinstance") (rIsO X.K) := by
  intro pins s σ H xs us Q I r h
  obtain ⟨a, C, d, fs, c, cv, b, rfl, ha, hd, T, hcv, e, q⟩ := h
  obtain ⟨u1, u2, rfl, r1, r2⟩ := vals2 r
  cases (show u1 = Value.ref a from r1)
  have e2 := hcv.eq r2
  subst e2
  obtain ⟨t1, ho⟩ := exo_at I.hok ha
  obtain ⟨mA, hns, _⟩ := exd_at I.hok hd
  obtain ⟨od, ho2, _⟩ := lookIn_ns hns
  exact PySem.W.kia_one (PySem.W.kitx_exc (od := some od) T.cl T.ga T.gg T.sub T.ca T.cg T.ct T.ob) I.kIn (show PySem.W.InstAt s.heap a _ C (some od) from ⟨ho, rfl, rfl, ho2⟩) e (fun z => nomatch z) fun tk => ⟨.bl b, H, I.tok tk, rfl, q⟩
/-- str(e), made of one text -/
def rStrV (K : PySem.W.Frag) : List V → Hp → VK → Prop := fun xs H Q => ∃ (a C t : Addr) (x : Str), xs = [.ref a] ∧ H a = some (Erv C t a none) ∧ H t = some (.tup [.str x]) ∧ EC K C ∧ Q (.str x) H
theorem call_strV (hu : X.A.units + 2 < cLine) : CallR X (.type "str") (rStrV X.K) := by
  intro pins s σ H xs us Q I r h
  obtain ⟨a, C, t, x, rfl, ha, ht, T, q⟩ := h
  rw [Vals.ref1 r]
  obtain ⟨_, its, rv, o, h1, h2, n, h3⟩ := (show ObjOk X.prog X.w H s.heap t (.tup [.str x]) from I.hok t _ ht)
  cases rv with
  | cons rx rr =>
    cases rr
    obtain ⟨tk, rfl⟩ := rx
    refine PySem.P.str_of_C_one hu ⟨I.kIn, _, _, ev_at I.hok ha, rfl, rfl, rfl⟩ ⟨o, n, h1, h2, h3⟩ T.st T.sub ?_
    exact ⟨.str x, H, I, ⟨tk, rfl⟩, q⟩
/-- e.f, e an error that has its dict -/
def tFldO (K : PySem.W.Frag) (f : Str) (te : TE) : TE := fun σ H Q => te σ H fun x H1 => ∃ (a C d : Addr) (fs : List (Str × V)) (v : V), x = .ref a ∧ H1 a = some (exo a C (some d)) ∧ H1 d = some (exd d fs) ∧ XfC K C ∧ PySem.W.findIn K (.ref C) f = some none ∧ fs.lookup f = some v ∧ Q v H1
theorem pe_fldO {e : Expr} {te : TE} {pos : Pos} {n : Str} (he : PE X e te) (hb : attributeBase e n X.env (eval e X.env) = eval e X.env := by rfl) : PE X (.Attribute e n pos) (tFldO X.K n te) := by
  refine ⟨fun pins s σ H Q I h => ?_⟩
  refine attr_of hb (thn (he.run pins s σ H _ I h) fun u s1 hh => ?_)
  obtain ⟨x, H1, I1, rx, a, C, d, fs, v, ex, ha, hd, T, hno, l, q⟩ := hh
  subst ex
  obtain rfl : u = Value.ref a := rx
  obtain ⟨t1, ho⟩ := exo_at I1.hok ha
  obtain ⟨mA, hns, hr⟩ := exd_at I1.hok hd
  obtain ⟨od, ho2, hl⟩ := lookIn_ns hns
  obtain ⟨u, hu, ru⟩ := RelO.some_of (v := v) (o := mA n) (by rw [← l]; exact hr n)
  exact HandSPX.exc_get I1.kIn (show PySem.W.InstAt s1.heap a _ C (some od) from ⟨ho, rfl, rfl, ho2⟩) T.ga T.gg T.exC (PySem.W.findObj_own T.hdC hno rfl (by rw [hl, hu])) (handed_of ru) ⟨v, H1, I1.tok _, ru, q⟩
end
end XV

/-! A reckoner of closed runs, and that what it reckons is what the hand layer's readings ask. -/
namespace Rf
open PySem L2

/-! ### its values, its heap, its answers -/
inductive EV where
  | non | bl (b : Bool) | int (i : Int) | str (s : EV) | nil | cons (x xs : EV) | tup (xs : EV) | lst (xs : EV) | ref (a : Nat) | ch (c : Nat)
inductive LL where
  | nil | un (r : LL) | as (x : EV) (r : LL)
inductive EO where
  | lst (xs : EV) | dct (kvs : EV) | dead
inductive Tr where
  | leaf | node (v : Option EO) (l r : Tr)
inductive RE where
  | ok (v : EV) (h : Tr) (m : Nat) | exc (c : Nat) (h : Tr) (m : Nat) | bad
inductive RS where
  | nx (l : LL) (h : Tr) (m : Nat) | ret (v : EV) (h : Tr) (m : Nat) | brk (l : LL) (h : Tr) (m : Nat) | cnt (l : LL) (h : Tr) (m : Nat) | exc (c : Nat) (l : LL) (h : Tr) (m : Nat) | bad
abbrev CE := LL → Tr → Nat → RE
abbrev CS := LL → Tr → Nat → RS

/-! ### what stands for what -/
def codes : EV → Option (List Nat)
  | .nil => some []
  | .cons (.ch c) r => if c < 1114112 then (codes r).map (c :: ·) else none
  | _ => none
theorem codes_cons {c : Nat} {r : EV} {l : List Nat} (h : codes (.cons (.ch c) r) = some l) : ∃ k, l = c :: k ∧ codes r = some k ∧ c < 1114112 := by
  have h' : (if c < 1114112 then (codes r).map (c :: ·) else none) = some l := h
  split at h'
  · rename_i hc
    cases q : codes r with
    | none => rw [q] at h'; cases h'
    | some k => rw [q] at h'; cases h'; exact ⟨k, rfl, rfl, hc⟩
  · cases h'
/-- where its objects stand (ρ), what its values do not reach (M), what it may change (G) -/
structure Gm where
  ρ : Nat → Addr
  M : Addr → Prop
  G : Addr → Prop
  sub : ∀ a, G a → M a
def RR (g : Gm) (m : Nat) (H : Hp) : EV → (V → Prop) × (List V → Prop)
  | .non => (fun v => v = .non, fun _ => False)
  | .bl b => (fun v => v = .bl b, fun _ => False)
  | .int i => (fun v => v = .int i, fun _ => False)
  | .str s => (fun v => ∃ l, codes s = some l ∧ v = .str ⟨l.toArray⟩, fun _ => False)
  | .nil => (fun _ => False, fun vs => vs = [])
  | .cons x xs => (fun v => match x with
      | .ch C => ∃ a t vs, v = .ref a ∧ H a = some (XV.Erv C t a none) ∧ ¬ g.M a ∧ H t = some (.tup vs) ∧ ¬ g.M t ∧ (RR g m H xs).2 vs
      | .lst (.ch C) => ∃ a d y, v = .ref a ∧ H a = some (exo a C (some d)) ∧ ¬ g.M a ∧ H d = some (exd d [("line", y)]) ∧ ¬ g.M d ∧ (RR g m H xs).1 y
      | _ => False, fun vs => ∃ v r, vs = v :: r ∧ (RR g m H x).1 v ∧ (RR g m H xs).2 r)
  | .tup xs => (fun v => ∃ a vs, v = .ref a ∧ H a = some (.tup vs) ∧ ¬ g.M a ∧ (RR g m H xs).2 vs, fun _ => False)
  | .lst xs => (fun v => ∃ a vs, v = .ref a ∧ H a = some (.lst vs) ∧ ¬ g.M a ∧ (RR g m H xs).2 vs, fun _ => False)
  | .ref a => (fun v => a < m ∧ v = .ref (g.ρ a), fun _ => False)
  | .ch _ => (fun _ => False, fun _ => False)
abbrev R (g : Gm) (m : Nat) (H : Hp) (v : EV) (x : V) : Prop := (RR g m H v).1 x
abbrev RL (g : Gm) (m : Nat) (H : Hp) (v : EV) (xs : List V) : Prop := (RR g m H v).2 xs

noncomputable def tget (t : Tr) : Nat → Option EO := Tr.rec (motive := fun _ => Nat → Option EO) (fun _ => none)
  (fun v _ _ il ir n => Nat.rec (motive := fun _ => Option EO) v (fun k _ => Bool.rec (ir (Nat.div k 2)) (il (Nat.div k 2)) (Nat.beq (Nat.mod k 2) 0)) n) t
def live : EO → Prop
  | .dead => False
  | _ => True
/-- items of a list stand in the order from its end -/
def RO (g : Gm) (m : Nat) (H : Hp) (a : Addr) : EO → Prop
  | .lst xs => g.G a ∧ ∃ vs, H a = some (.lst vs) ∧ RL g m H xs vs.reverse
  | .dct _ => False
  | .dead => True
structure S (g : Gm) (m : Nat) (h : Tr) (H : Hp) : Prop where
  inj : ∀ i j o u, i < m → j < m → tget h i = some o → tget h j = some u → live o → live u → g.ρ i = g.ρ j → i = j
  obj : ∀ i, i < m → ∃ o, tget h i = some o ∧ RO g m H (g.ρ i) o
  mem : ∀ a, g.M a → ∃ o, H a = some o
structure Ext (g : Gm) (m : Nat) (H : Hp) (g' : Gm) (m' : Nat) (H' : Hp) : Prop where
  le : m ≤ m'
  eq : ∀ i, i < m → g'.ρ i = g.ρ i
  newM : ∀ a, g'.M a → g.M a ∨ H a = none
  newG : ∀ a, g'.G a → g.G a ∨ H a = none
  keep : ∀ a o, H a = some o → ¬ g.G a → H' a = some o
  keepM : ∀ a, g.M a → ¬ g.G a → g'.M a ∧ ¬ g'.G a

section
variable {g g' g'' : Gm} {m m' m'' : Nat} {H H' H'' : Hp} {h h' : Tr} {v w : EV} {x y : V} {xs : List V}
theorem S.free (s : S g m h H) {p : Addr} (hp : H p = none) : ¬ g.M p := fun z => by
  obtain ⟨o, q⟩ := s.mem p z
  rw [hp] at q; cases q
theorem Ext.refl : Ext g m H g m H := ⟨Nat.le_refl _, fun _ _ => rfl, fun _ z => .inl z, fun _ z => .inl z, fun _ _ e _ => e, fun _ a b => ⟨a, b⟩⟩
theorem Ext.out (e : Ext g m H g' m' H') {a : Addr} {o : HO} (ha : H a = some o) (hn : ¬ g.M a) : ¬ g'.M a := fun z => by
  rcases e.newM a z with q | q
  · exact hn q
  · rw [ha] at q; cases q
theorem Ext.outG (e : Ext g m H g' m' H') {a : Addr} {o : HO} (ha : H a = some o) (hn : ¬ g.G a) : ¬ g'.G a := fun z => by
  rcases e.newG a z with q | q
  · exact hn q
  · rw [ha] at q; cases q
theorem Ext.trans (e : Ext g m H g' m' H') (f : Ext g' m' H' g'' m'' H'') : Ext g m H g'' m'' H'' := by
  have back : ∀ a, H' a = none → g.G a ∨ H a = none := fun a q => by
    cases hz : H a with
    | none => exact .inr rfl
    | some o =>
      by_cases hm : g.G a
      · exact .inl hm
      · have := e.keep a o hz hm
        rw [q] at this; cases this
  refine ⟨Nat.le_trans e.le f.le, fun i hi => (f.eq i (Nat.lt_of_lt_of_le hi e.le)).trans (e.eq i hi), fun a z => ?_, fun a z => ?_, fun a o ha hn => f.keep a o (e.keep a o ha hn) (e.outG ha hn), fun a h1 h2 => f.keepM a (e.keepM a h1 h2).1 (e.keepM a h1 h2).2⟩
  · rcases f.newM a z with q | q
    · exact e.newM a q
    · exact (back a q).elim (fun z => .inl (g.sub a z)) .inr
  · rcases f.newG a z with q | q
    · exact e.newG a q
    · exact back a q
theorem RR.mono (e : Ext g m H g' m' H') : ∀ v : EV, (∀ x, R g m H v x → R g' m' H' v x) ∧ (∀ xs, RL g m H v xs → RL g' m' H' v xs)
  | .non => ⟨fun _ h => h, fun _ h => h⟩
  | .bl _ => ⟨fun _ h => h, fun _ h => h⟩
  | .int _ => ⟨fun _ h => h, fun _ h => h⟩
  | .str _ => ⟨fun _ h => h, fun _ h => h⟩
  | .nil => ⟨fun _ h => h, fun _ h => h⟩
  | .cons x xs => ⟨fun w h => by
    have ixs := RR.mono e xs
    match x, h with
    | .ch C, h =>
      obtain ⟨a, t, vs, e1, h1, n1, h2, n2, h3⟩ := h
      exact ⟨a, t, vs, e1, e.keep _ _ h1 (fun z => n1 (g.sub a z)), e.out h1 n1, e.keep _ _ h2 (fun z => n2 (g.sub t z)), e.out h2 n2, ixs.2 _ h3⟩
    | .lst (.ch C), h =>
      obtain ⟨a, t, y, e1, h1, n1, h2, n2, h3⟩ := h
      exact ⟨a, t, y, e1, e.keep _ _ h1 (fun z => n1 (g.sub a z)), e.out h1 n1, e.keep _ _ h2 (fun z => n2 (g.sub t z)), e.out h2 n2, ixs.1 _ h3⟩, fun _ h => by
    obtain ⟨v, r, e1, h1, h2⟩ := h
    exact ⟨v, r, e1, (RR.mono e x).1 _ h1, (RR.mono e xs).2 _ h2⟩⟩
  | .tup xs => ⟨fun _ h => by
    obtain ⟨a, vs, e1, h1, h2, h3⟩ := h
    exact ⟨a, vs, e1, e.keep _ _ h1 (fun z => h2 (g.sub a z)), e.out h1 h2, (RR.mono e xs).2 _ h3⟩, fun _ h => h⟩
  | .lst xs => ⟨fun _ h => by
    obtain ⟨a, vs, e1, h1, h2, h3⟩ := h
    exact ⟨a, vs, e1, e.keep _ _ h1 (fun z => h2 (g.sub a z)), e.out h1 h2, (RR.mono e xs).2 _ h3⟩, fun _ h => h⟩
  | .ref a => ⟨fun _ h => by
    obtain ⟨h1, h2⟩ := h
    exact ⟨Nat.lt_of_lt_of_le h1 e.le, by rw [e.eq a h1]; exact h2⟩, fun _ h => h⟩
  | .ch _ => ⟨fun _ h => h, fun _ h => h⟩
theorem R.mono (e : Ext g m H g' m' H') (r : R g m H v x) : R g' m' H' v x := (RR.mono e v).1 _ r
theorem RL.mono (e : Ext g m H g' m' H') (r : RL g m H v xs) : RL g' m' H' v xs := (RR.mono e v).2 _ r
/-- a new object, not one of ours -/
theorem Ext.laid {p : Addr} {o : HO} (hp : H p = none) : Ext g m H g m (upd H p o) :=
  ⟨Nat.le_refl _, fun _ _ => rfl, fun _ z => .inl z, fun _ z => .inl z, fun a u e _ => by rw [upd_ne (ne_of_none e hp)]; exact e, fun _ a b => ⟨a, b⟩⟩
theorem S.laid (s : S g m h H) {p : Addr} {o : HO} (hp : H p = none) : S g m h (upd H p o) :=
  ⟨s.inj, fun i hi => by
    obtain ⟨u, e, r⟩ := s.obj i hi
    refine ⟨u, e, ?_⟩
    cases u with
    | lst xs => obtain ⟨a, vs, q, rl⟩ := r; exact ⟨a, vs, by rw [upd_ne (ne_of_none q hp)]; exact q, RL.mono (Ext.laid hp) rl⟩
    | dct kvs => exact r.elim
    | dead => trivial, fun a z => by
    obtain ⟨u, q⟩ := s.mem a z
    exact ⟨u, by rw [upd_ne (ne_of_none q hp)]; exact q⟩⟩
end

/-! ### slots -/
def LLs : LL → List (Option EV)
  | .nil => []
  | .un r => none :: LLs r
  | .as x r => some x :: LLs r
structure LR (g : Gm) (m : Nat) (H : Hp) (l : LL) (σ : L2.St) : Prop where
  len : σ.length = (LLs l).length
  get : ∀ (i : Nat) x, (LLs l)[i]? = some (some x) → ∃ v, σ[i]? = some (some v) ∧ R g m H x v
theorem LR.mono {g g' m m' H H' l σ} (e : Ext g m H g' m' H') (h : LR g m H l σ) : LR g' m' H' l σ :=
  ⟨h.len, fun i x q => let ⟨v, a, b⟩ := h.get i x q; ⟨v, a, b.mono e⟩⟩

/-! ### what an answer must bear -/
abbrev KE := Gm → Nat → Tr → Hp → EV → Prop
section
variable (CV : Nat → Value) (W : WX)
def PostE (σ : L2.St) (g : Gm) (m : Nat) (H : Hp) (r : RE) (K : KE) : Prop := match r with
  | .ok v h' m' => ∀ g' H', Ext g m H g' m' H' → S g' m' h' H' → K g' m' h' H' v
  | .exc c h' m' => ∀ g' H', Ext g m H g' m' H' → S g' m' h' H' → W (CV c) none σ H'
  | .bad => False
def PostS (g : Gm) (m : Nat) (H : Hp) (r : RS) (D : Ends) : Prop := match r with
  | .nx l' h' m' => ∀ g' H' σ', Ext g m H g' m' H' → S g' m' h' H' → LR g' m' H' l' σ' → D.nx σ' H'
  | .brk l' h' m' => ∀ g' H' σ', Ext g m H g' m' H' → S g' m' h' H' → LR g' m' H' l' σ' → D.bk σ' H'
  | .cnt l' h' m' => ∀ g' H' σ', Ext g m H g' m' H' → S g' m' h' H' → LR g' m' H' l' σ' → D.ct σ' H'
  | .ret v h' m' => ∀ g' H' x, Ext g m H g' m' H' → S g' m' h' H' → R g' m' H' v x → D.rt x H'
  | .exc c l' h' m' => ∀ g' H' σ', Ext g m H g' m' H' → S g' m' h' H' → LR g' m' H' l' σ' → W (CV c) none σ' H'
  | .bad => False
def tE (c : CE) : TE := fun σ H Q => ∃ l h m g, S g m h H ∧ LR g m H l σ ∧ PostE CV W σ g m H (c l h m) fun g' m' _ H' v => ∀ x, R g' m' H' v x → Q x H'
def tA (c : CE) : TA := fun σ H Q => ∃ l h m g, S g m h H ∧ LR g m H l σ ∧ PostE CV W σ g m H (c l h m) fun g' m' _ H' v => ∀ xs, RL g' m' H' v xs → Q xs H'
def tT (c : CE) : TT := fun σ H Q => ∃ l h m g, S g m h H ∧ LR g m H l σ ∧ PostE CV W σ g m H (c l h m) fun _ _ _ H' v => ∃ b, v = .bl b ∧ Q b H'
def tS (c : CS) : TS := fun D σ H => ∃ l h m g, S g m h H ∧ LR g m H l σ ∧ PostS CV W g m H (c l h m) D
end
section
variable {CV : Nat → Value} {W : WX} {σ : L2.St} {g g' : Gm} {m m' : Nat} {H H' : Hp} {h h' : Tr} {r : RE} {K K' : KE} {l : LL}
theorem PostE.mono (p : PostE CV W σ g m H r K) (k : ∀ g' m' h' H' v, Ext g m H g' m' H' → S g' m' h' H' → K g' m' h' H' v → K' g' m' h' H' v) : PostE CV W σ g m H r K' := by
  cases r with
  | ok v h' m' => exact fun g' H' e s => k _ _ _ _ _ e s (p g' H' e s)
  | exc c h' m' => exact p
  | bad => exact p
theorem PostE.shift (p : PostE CV W σ g m H r K) (e : Ext g m H g' m' H') : PostE CV W σ g' m' H' r K := by
  cases r with
  | ok v h' m' => exact fun g2 H2 e2 s2 => p g2 H2 (e.trans e2) s2
  | exc c h' m' => exact fun g2 H2 e2 s2 => p g2 H2 (e.trans e2) s2
  | bad => exact p
theorem PostS.shift {r : RS} {D : Ends} (p : PostS CV W g m H r D) (e : Ext g m H g' m' H') : PostS CV W g' m' H' r D := by
  cases r with
  | nx => exact fun g2 H2 σ2 e2 s2 => p g2 H2 σ2 (e.trans e2) s2
  | brk => exact fun g2 H2 σ2 e2 s2 => p g2 H2 σ2 (e.trans e2) s2
  | cnt => exact fun g2 H2 σ2 e2 s2 => p g2 H2 σ2 (e.trans e2) s2
  | ret => exact fun g2 H2 x e2 s2 => p g2 H2 x (e.trans e2) s2
  | exc => exact fun g2 H2 σ2 e2 s2 => p g2 H2 σ2 (e.trans e2) s2
  | bad => exact p
end
noncomputable def bindE (r : RE) (k : EV → Tr → Nat → RE) : RE := RE.rec (motive := fun _ => RE) k (fun c h m => .exc c h m) .bad r
noncomputable def bindES (r : RE) (l : LL) (k : EV → Tr → Nat → RS) : RS := RE.rec (motive := fun _ => RS) k (fun c h m => .exc c l h m) .bad r
section
variable {CV : Nat → Value} {W : WX} {σ : L2.St} {g g' : Gm} {m m' : Nat} {H H' : Hp} {h h' : Tr} {r : RE} {K K' : KE} {l : LL} {D : Ends}
theorem PostE.bind {k : EV → Tr → Nat → RE} (p : PostE CV W σ g m H (bindE r k) K) : PostE CV W σ g m H r fun g' m' h' H' v => PostE CV W σ g' m' H' (k v h' m') K := by
  cases r with
  | ok v h1 m1 => exact fun g' H' e s => PostE.shift (show PostE CV W σ g m H (k v h1 m1) K from p) e
  | exc c h1 m1 => exact p
  | bad => exact p
theorem PostS.bind {k : EV → Tr → Nat → RS} (hl : LR g m H l σ) (p : PostS CV W g m H (bindES r l k) D) : PostE CV W σ g m H r fun g' m' h' H' v => PostS CV W g' m' H' (k v h' m') D := by
  cases r with
  | ok v h1 m1 => exact fun g' H' e s => PostS.shift (show PostS CV W g m H (k v h1 m1) D from p) e
  | exc c h1 m1 => exact fun g' H' e s => p g' H' σ e s (hl.mono e)
  | bad => exact p
end
end Rf

namespace Rf
open PySem L2

/-! ### forced numbers, lists -/
noncomputable def forceN {α : Type} (n : Nat) (k : Nat → α) : α := Nat.rec (motive := fun _ => α) (k 0) (fun m _ => k (Nat.succ m)) n
theorem forceN_eq {α : Type} (n : Nat) (k : Nat → α) : forceN n k = k n := by cases n <;> rfl
noncomputable def okInt (i : Int) (h : Tr) (m : Nat) : RE := Int.rec (motive := fun _ => RE) (fun n => forceN n fun n => .ok (.int (.ofNat n)) h m) (fun n => forceN n fun n => .ok (.int (.negSucc n)) h m) i
theorem okInt_eq (i : Int) (h : Tr) (m : Nat) : okInt i h m = .ok (.int i) h m := by
  cases i with
  | ofNat n => exact forceN_eq n (fun n => RE.ok (.int (.ofNat n)) h m)
  | negSucc n => exact forceN_eq n (fun n => RE.ok (.int (.negSucc n)) h m)
noncomputable def lgetK (l : LL) : Nat → (EV → RE) → RE := LL.rec (motive := fun _ => Nat → (EV → RE) → RE) (fun _ _ => .bad)
  (fun _ ih n k => Nat.rec (motive := fun _ => RE) .bad (fun j _ => ih j k) n) (fun x _ ih n k => Nat.rec (motive := fun _ => RE) (k x) (fun j _ => ih j k) n) l
noncomputable def lsetK {α : Type} (v : EV) (d : α) (l : LL) : Nat → (LL → α) → α := LL.rec (motive := fun _ => Nat → (LL → α) → α) (fun _ _ => d)
  (fun r ih n k => Nat.rec (motive := fun _ => α) (k (.as v r)) (fun j _ => ih j fun ys => k (.un ys)) n) (fun x r ih n k => Nat.rec (motive := fun _ => α) (k (.as v r)) (fun j _ => ih j fun ys => k (.as x ys)) n) l
theorem lgetK_eq : ∀ (l : LL) (n : Nat) (k : EV → RE), (∃ x, (LLs l)[n]? = some (some x) ∧ lgetK l n k = k x) ∨ lgetK l n k = .bad
  | .nil, n, k => .inr rfl
  | .un r, 0, k => .inr rfl
  | .un r, n + 1, k => lgetK_eq r n k
  | .as x r, 0, k => .inl ⟨x, rfl, rfl⟩
  | .as x r, n + 1, k => lgetK_eq r n k
theorem lsetK_eq {α : Type} (v : EV) (d : α) : ∀ (l : LL) (n : Nat) (k : LL → α), (∃ l', LLs l' = (LLs l).set n (some v) ∧ n < (LLs l).length ∧ lsetK v d l n k = k l') ∨ lsetK v d l n k = d
  | .nil, n, k => .inr rfl
  | .un r, 0, k => .inl ⟨.as v r, rfl, Nat.zero_lt_succ _, rfl⟩
  | .un r, n + 1, k => by
    rcases lsetK_eq v d r n (fun ys => k (.un ys)) with ⟨l', e, hl, q⟩ | q
    · exact .inl ⟨.un l', by show none :: LLs l' = _; rw [e]; rfl, Nat.succ_lt_succ hl, q⟩
    · exact .inr q
  | .as x r, 0, k => .inl ⟨.as v r, rfl, Nat.zero_lt_succ _, rfl⟩
  | .as x r, n + 1, k => by
    rcases lsetK_eq v d r n (fun ys => k (.as x ys)) with ⟨l', e, hl, q⟩ | q
    · exact .inl ⟨.as x l', by show some x :: LLs l' = _; rw [e]; rfl, Nat.succ_lt_succ hl, q⟩
    · exact .inr q
theorem LR.set {g m H l l' σ n v x} (h : LR g m H l σ) (e : LLs l' = (LLs l).set n (some v)) (hn : n < (LLs l).length) (r : R g m H v x) : LR g m H l' (σ.set n (some x)) := by
  refine ⟨by rw [List.length_set, h.len, e, List.length_set], fun i y q => ?_⟩
  rw [e] at q
  by_cases hi : i = n
  · subst hi
    rw [List.getElem?_set_self hn] at q
    have q' : v = y := Option.some.inj (Option.some.inj q)
    subst q'
    exact ⟨x, List.getElem?_set_self (by rw [h.len]; exact hn), r⟩
  · rw [List.getElem?_set_ne (Ne.symm hi)] at q
    obtain ⟨u, a, b⟩ := h.get i y q
    exact ⟨u, by rw [List.getElem?_set_ne (Ne.symm hi)]; exact a, b⟩
noncomputable def appK {α : Type} (ys : EV) (x : EV) : (EV → α) → α := EV.rec (motive := fun _ => (EV → α) → α) (fun k => k ys) (fun _ k => k ys) (fun _ k => k ys) (fun _ _ k => k ys) (fun k => k ys)
  (fun x _ _ ih k => ih fun z => k (.cons x z)) (fun _ _ k => k ys) (fun _ _ k => k ys) (fun _ k => k ys) (fun _ k => k ys) x
theorem appK_RL {α : Type} {g m H} {ys : EV} {ws : List V} (hy : RL g m H ys ws) : ∀ (x : EV) (vs : List V), RL g m H x vs → ∀ k : EV → α, ∃ z, appK ys x k = k z ∧ RL g m H z (vs ++ ws)
  | .nil, vs, h, k => ⟨ys, rfl, by rw [show vs = [] from h]; exact hy⟩
  | .cons a r, vs, h, k => by
    obtain ⟨v, r', rfl, h1, h2⟩ := h
    obtain ⟨z, e, q⟩ := appK_RL hy r r' h2 (fun z => k (.cons a z))
    exact ⟨.cons a z, e, v, _, rfl, h1, q⟩
noncomputable def revK {α : Type} (x : EV) : EV → (EV → α) → α := EV.rec (motive := fun _ => EV → (EV → α) → α) (fun a k => k a) (fun _ a k => k a) (fun _ a k => k a) (fun _ _ a k => k a) (fun a k => k a)
  (fun x _ _ ih a k => ih (.cons x a) k) (fun _ _ a k => k a) (fun _ _ a k => k a) (fun _ a k => k a) (fun _ a k => k a) x
theorem revK_RL {α : Type} {g m H} : ∀ (x : EV) (vs : List V) (a : EV) (ws : List V), RL g m H x vs → RL g m H a ws → ∀ k : EV → α, ∃ z, revK x a k = k z ∧ RL g m H z (vs.reverse ++ ws)
  | .nil, vs, a, ws, h, ha, k => ⟨a, rfl, by rw [show vs = [] from h]; exact ha⟩
  | .cons b r, vs, a, ws, h, ha, k => by
    obtain ⟨v, r', rfl, h1, h2⟩ := h
    obtain ⟨z, e, q⟩ := revK_RL r r' (.cons b a) (v :: ws) h2 ⟨v, ws, rfl, h1, ha⟩ k
    exact ⟨z, e, by rw [List.reverse_cons, List.append_assoc]; exact q⟩
noncomputable def lenK {α : Type} (x : EV) : Nat → (Nat → α) → α := EV.rec (motive := fun _ => Nat → (Nat → α) → α) (fun n k => k n) (fun _ n k => k n) (fun _ n k => k n) (fun _ _ n k => k n) (fun n k => k n)
  (fun _ _ _ ih n k => forceN (Nat.succ n) fun m => ih m k) (fun _ _ n k => k n) (fun _ _ n k => k n) (fun _ n k => k n) (fun _ n k => k n) x
theorem lenK_RL {α : Type} {g m H} : ∀ (x : EV) (vs : List V), RL g m H x vs → ∀ (n : Nat) (k : Nat → α), lenK x n k = k (n + vs.length)
  | .nil, vs, h, n, k => by rw [show vs = [] from h]; rfl
  | .cons b r, vs, h, n, k => by
    obtain ⟨v, r', rfl, h1, h2⟩ := h
    show forceN (Nat.succ n) (fun m => lenK r m k) = _
    rw [forceN_eq, lenK_RL r r' h2]
    congr 1
    rw [List.length_cons]; omega
/-- kinds of values -/
noncomputable def onInt {α : Type} (d : α) (k : Int → α) (x : EV) : α := EV.rec (motive := fun _ => α) d (fun _ => d) k (fun _ _ => d) d (fun _ _ _ _ => d) (fun _ _ => d) (fun _ _ => d) (fun _ => d) (fun _ => d) x
noncomputable def onBl {α : Type} (d : α) (k : Bool → α) (x : EV) : α := EV.rec (motive := fun _ => α) d k (fun _ => d) (fun _ _ => d) d (fun _ _ _ _ => d) (fun _ _ => d) (fun _ _ => d) (fun _ => d) (fun _ => d) x
noncomputable def onRef {α : Type} (d : α) (k : Nat → α) (x : EV) : α := EV.rec (motive := fun _ => α) d (fun _ => d) (fun _ => d) (fun _ _ => d) d (fun _ _ _ _ => d) (fun _ _ => d) (fun _ _ => d) k (fun _ => d) x
noncomputable def onCons {α : Type} (d : α) (k : EV → EV → α) (x : EV) : α := EV.rec (motive := fun _ => α) d (fun _ => d) (fun _ => d) (fun _ _ => d) d (fun x xs _ _ => k x xs) (fun _ _ => d) (fun _ _ => d) (fun _ => d) (fun _ => d) x
noncomputable def onLst {α : Type} (d : α) (k : EV → α) (o : Option EO) : α := Option.rec (motive := fun _ => α) d (fun o => EO.rec (motive := fun _ => α) k (fun _ => d) d o) o
/-- a list or a tuple, its items -/
noncomputable def seqK (kL kT : EV → RE) (v : EV) (h : Tr) : RE := EV.rec (motive := fun _ => RE) .bad (fun _ => .bad) (fun _ => .bad) (fun _ _ => .bad) .bad (fun _ _ _ _ => .bad) (fun xs _ => kT xs) (fun xs _ => kL xs)
  (fun a => onLst .bad (fun xs => revK xs .nil kL) (tget h a)) (fun _ => .bad) v
section
variable {CV : Nat → Value} {W : WX} {σ : L2.St} {g g' : Gm} {m m' : Nat} {H H' : Hp} {h h' : Tr} {r : RE} {K K' : KE} {l : LL} {D : Ends} {v w : EV} {x y : V}
theorem seqK_of {kL kT : EV → RE} (s : S g m h H) (rx : R g m H v x) (p : PostE CV W σ g m H (seqK kL kT v h) K) :
    ∃ a vs e, x = .ref a ∧ RL g m H e vs ∧ ((H a = some (.lst vs) ∧ PostE CV W σ g m H (kL e) K) ∨ (H a = some (.tup vs) ∧ ¬ g.M a ∧ PostE CV W σ g m H (kT e) K)) := by
  cases v with
  | tup xs => obtain ⟨a, vs, e, h1, h0, h2⟩ := rx; exact ⟨a, vs, xs, e, h2, .inr ⟨h1, h0, p⟩⟩
  | lst xs => obtain ⟨a, vs, e, h1, _, h2⟩ := rx; exact ⟨a, vs, xs, e, h2, .inl ⟨h1, p⟩⟩
  | ref i =>
    obtain ⟨hi, e⟩ := rx
    obtain ⟨o, ho, ro⟩ := s.obj i hi
    have p' : PostE CV W σ g m H (onLst .bad (fun xs => revK xs .nil kL) (tget h i)) K := p
    rw [ho] at p'
    cases o with
    | lst xs =>
      obtain ⟨_, vs, hv, rv⟩ := ro
      obtain ⟨z, ez, rz⟩ := revK_RL (α := RE) xs vs.reverse .nil [] rv (show RL g m H .nil [] from rfl) kL
      refine ⟨g.ρ i, vs, z, e, ?_, .inl ⟨hv, ?_⟩⟩
      · rw [List.reverse_reverse, List.append_nil] at rz; exact rz
      · have q : PostE CV W σ g m H (revK xs .nil kL) K := p'
        rw [ez] at q; exact q
    | dct kvs => exact ro.elim
    | dead => exact p'.elim
  | non => exact p.elim
  | bl => exact p.elim
  | int => exact p.elim
  | str => exact p.elim
  | nil => exact p.elim
  | cons => exact p.elim
  | ch => exact p.elim
theorem onInt_of {k : Int → RE} (rx : R g m H v x) (p : PostE CV W σ g m H (onInt .bad k v) K) : ∃ i, v = .int i ∧ x = .int i ∧ PostE CV W σ g m H (k i) K := by
  cases v with
  | int i => exact ⟨i, rfl, rx, p⟩
  | non => exact p.elim
  | bl => exact p.elim
  | str => exact p.elim
  | nil => exact p.elim
  | cons => exact p.elim
  | tup => exact p.elim
  | lst => exact p.elim
  | ref => exact p.elim
  | ch => exact p.elim
/-- an answer that is given -/
theorem post_ok (s : S g m h H) (p : PostE CV W σ g m H (.ok v h m) K) : K g m h H v := p g H Ext.refl s
end

/-! ### weaker readings -/
section
variable {X : Cx}
theorem pe_mono {e : Expr} {t t' : TE} (h : PE X e t) (k : ∀ σ H Q, t' σ H Q → t σ H Q) : PE X e t' := ⟨fun pins s σ H Q I q => h.run pins s σ H Q I (k σ H Q q)⟩
theorem pt_mono {e : Expr} {t t' : TT} (h : PT X e t) (k : ∀ σ H Q, t' σ H Q → t σ H Q) : PT X e t' := ⟨fun pins s σ H Q I q => h.run pins s σ H Q I (k σ H Q q)⟩
theorem pa_mono {e : List Expr} {t t' : L2.TA} (h : PA X e t) (k : ∀ σ H Q, t' σ H Q → t σ H Q) : PA X e t' := ⟨fun pos pins s σ H Q I q => h.run pos pins s σ H Q I (k σ H Q q)⟩
theorem ps_mono {e : Stmt} {t t' : TS} (h : PS X e t) (k : ∀ D σ H, t' D σ H → t D σ H) : PS X e t' := ⟨fun pins s σ H D I q => h.run pins s σ H D I (k D σ H q)⟩
theorem pss_mono {e : List Stmt} {t t' : TS} (h : PSs X e t) (k : ∀ D σ H, t' D σ H → t D σ H) : PSs X e t' := ⟨fun pins s σ H D I q => h.run pins s σ H D I (k D σ H q)⟩
end

/-! ### expressions -/
noncomputable def eVar (i : Nat) : CE := fun l h m => lgetK l i fun x => .ok x h m
noncomputable def eCon (v : EV) : CE := fun _ h m => .ok v h m
noncomputable def eNil : CE := fun _ h m => .ok .nil h m
noncomputable def eCons (a as : CE) : CE := fun l h m => bindE (a l h m) fun x h m => bindE (as l h m) fun xs h m => .ok (.cons x xs) h m
noncomputable def eStar (a as : CE) : CE := fun l h m => bindE (a l h m) fun x h m => seqK (fun ys => bindE (as l h m) fun xs h m => appK xs ys fun z => .ok z h m) (fun ys => bindE (as l h m) fun xs h m => appK xs ys fun z => .ok z h m) x h
noncomputable def lenOk (xs : EV) (r : RE) : RE := lenK xs 0 fun n => Bool.rec (motive := fun _ => RE) .bad r (Nat.ble n 16000000)
noncomputable def eTup (es : CE) : CE := fun l h m => bindE (es l h m) fun xs h m => lenOk xs (.ok (.tup xs) h m)
noncomputable def eLst (es : CE) : CE := fun l h m => bindE (es l h m) fun xs h m => lenOk xs (.ok (.lst xs) h m)
noncomputable def eOp (f : EV → EV → Tr → Nat → RE) (a b : CE) : CE := fun l h m => bindE (a l h m) fun x h m => bindE (b l h m) fun y h m => f x y h m
noncomputable def eUn (f : EV → Tr → Nat → RE) (a : CE) : CE := fun l h m => bindE (a l h m) fun x h m => f x h m
noncomputable def eChain (f g : EV → EV → Tr → Nat → RE) (a b c : CE) : CE := fun l h m => bindE (a l h m) fun x h m => bindE (b l h m) fun y h m => bindE (f x y h m) fun z h m =>
  onBl .bad (fun k => Bool.rec (motive := fun _ => RE) (.ok (.bl false) h m) (bindE (c l h m) fun w h m => g y w h m) k) z
noncomputable def eAnd (a b : CE) : CE := fun l h m => bindE (a l h m) fun x h m => onBl .bad (fun k => Bool.rec (motive := fun _ => RE) (.ok (.bl false) h m) (b l h m) k) x
noncomputable def eOr (a b : CE) : CE := fun l h m => bindE (a l h m) fun x h m => onBl .bad (fun k => Bool.rec (motive := fun _ => RE) (b l h m) (.ok (.bl true) h m) k) x
noncomputable def eNot (a : CE) : CE := fun l h m => bindE (a l h m) fun x h m => onBl .bad (fun k => Bool.rec (motive := fun _ => RE) (.ok (.bl true) h m) (.ok (.bl false) h m) k) x
noncomputable def eIf (c a b : CE) : CE := fun l h m => bindE (c l h m) fun x h m => onBl .bad (fun k => Bool.rec (motive := fun _ => RE) (b l h m) (a l h m) k) x
/-- a call by values -/
noncomputable def eBi (f : EV → Tr → Nat → RE) (es : CE) : CE := fun l h m => bindE (es l h m) fun xs h m => f xs h m

section
variable (CV : Nat → Value) (W : WX)
def Op2 (f : EV → EV → Tr → Nat → RE) (r : R2) : Prop := ∀ (σ : L2.St) (g : Gm) (m : Nat) (h : Tr) (H : Hp) (v w : EV) (x y : V) (Q : VK), S g m h H → R g m H v x → R g m H w y →
  PostE CV W σ g m H (f v w h m) (fun g' m' _ H' z => ∀ u, R g' m' H' z u → Q u H') → r x y H Q
def Op1 (f : EV → Tr → Nat → RE) (r : V → Hp → VK → Prop) : Prop := ∀ (σ : L2.St) (g : Gm) (m : Nat) (h : Tr) (H : Hp) (v : EV) (x : V) (Q : VK), S g m h H → R g m H v x →
  PostE CV W σ g m H (f v h m) (fun g' m' _ H' z => ∀ u, R g' m' H' z u → Q u H') → r x H Q
def OpN (f : EV → Tr → Nat → RE) (r : List V → Hp → VK → Prop) : Prop := ∀ (σ : L2.St) (g : Gm) (m : Nat) (h : Tr) (H : Hp) (v : EV) (xs : List V) (Q : VK), S g m h H → RL g m H v xs →
  PostE CV W σ g m H (f v h m) (fun g' m' _ H' z => ∀ u, R g' m' H' z u → Q u H') → r xs H Q
end
section
variable {X : Cx} {CV : Nat → Value} {W : WX} {a b c : CE} {ea eb ec : Expr} {es : List Expr} {pos : Pos}
theorem de_var (i : Nat) {x : Str} (h : PE X (.Name x pos) (tVar i)) : PE X (.Name x pos) (tE CV W (eVar i)) := pe_mono h fun σ H Q ⟨l, h, m, g, s, lr, p⟩ => by
  have p' : PostE CV W σ g m H (lgetK l i fun x => .ok x h m) _ := p
  rcases lgetK_eq l i (fun x => .ok x h m) with ⟨x, e, q⟩ | q
  · obtain ⟨v, e2, r⟩ := lr.get i x e
    rw [q] at p'
    exact ⟨v, e2, post_ok s p' v r⟩
  · rw [q] at p'; exact p'.elim
theorem de_con {v : EV} {x : V} {e : Expr} (h : PE X e (tC x)) (hr : ∀ g m H, R g m H v x) : PE X e (tE CV W (eCon v)) := pe_mono h fun σ H Q ⟨l, h, m, g, s, lr, p⟩ => post_ok s p x (hr _ _ _)
theorem da_nil : PA X [] (tA CV W eNil) := pa_mono pa_nil fun σ H Q ⟨l, h, m, g, s, lr, p⟩ => post_ok s p [] rfl
theorem da_cons (ha : PE X ea (tE CV W a)) (hb : PA X es (tA CV W b)) (hs : starEach (ea :: es) X.env = (false, eval ea X.env) :: starEach es X.env := by rfl) : PA X (ea :: es) (tA CV W (eCons a b)) :=
  pa_mono (pa_cons ha hb hs) fun σ H Q ⟨l, h, m, g, s, lr, p⟩ => ⟨l, h, m, g, s, lr, PostE.mono (PostE.bind p) fun g1 m1 h1 H1 v e1 s1 p1 x rx =>
    ⟨l, h1, m1, g1, s1, lr.mono e1, PostE.mono (PostE.bind p1) fun g2 m2 h2 H2 w e2 s2 p2 xs rxs => post_ok s2 p2 (x :: xs) ⟨x, xs, rfl, rx.mono e2, rxs⟩⟩⟩
theorem da_star {p : Pos} (ha : PE X ea (tE CV W a)) (hb : PA X es (tA CV W b)) (hs : starEach (.Starred ea p :: es) X.env = (true, eval ea X.env) :: starEach es X.env := by rfl) : PA X (.Starred ea p :: es) (tA CV W (eStar a b)) := by
  refine pa_mono (StX.pa_star ha hb hs) fun σ H Q ⟨l, h, m, g, s, lr, p⟩ => ⟨l, h, m, g, s, lr, PostE.mono (PostE.bind p) fun g1 m1 h1 H1 v e1 s1 p1 x rx => ?_⟩
  obtain ⟨a1, vs, ev, ex, rl, q⟩ := seqK_of s1 rx p1
  have fin : PostE CV W σ g1 m1 H1 (bindE (b l h1 m1) fun xs h m => appK xs ev fun z => .ok z h m) (fun g' m' _ H' v => ∀ xs, RL g' m' H' v xs → Q xs H') → tA CV W b σ H1 (fun ys H2 => Q (vs ++ ys) H2) := fun q =>
    ⟨l, h1, m1, g1, s1, lr.mono e1, PostE.mono (PostE.bind q) fun g2 m2 h2 H2 w e2 s2 p2 ys ry => by
      obtain ⟨z, ez, rz⟩ := appK_RL (α := RE) ry ev vs (rl.mono e2) (fun z => .ok z h2 m2)
      rw [ez] at p2
      exact post_ok s2 p2 _ rz⟩
  rcases q with ⟨q1, q2⟩ | ⟨q1, _, q2⟩
  · exact ⟨a1, vs, ex, .inr (SqL.of q1), fin q2⟩
  · exact ⟨a1, vs, ex, .inl (SqT.of q1), fin q2⟩
theorem lenOk_of {σ : L2.St} {g m H} {xs : EV} {vs : List V} {r : RE} {K : KE} (rl : RL g m H xs vs) (p : PostE CV W σ g m H (lenOk xs r) K) : vs.length ≤ 16000000 ∧ PostE CV W σ g m H r K := by
  have p' : PostE CV W σ g m H (lenK xs 0 fun n => Bool.rec (motive := fun _ => RE) .bad r (Nat.ble n 16000000)) K := p
  rw [lenK_RL xs vs rl, Nat.zero_add] at p'
  cases z : Nat.ble vs.length 16000000 with
  | true => rw [z] at p'; exact ⟨Nat.le_of_ble_eq_true z, p'⟩
  | false => rw [z] at p'; exact p'.elim
theorem small16 {n : Nat} (h : n ≤ 16000000) : n < sizeLine := Nat.lt_of_le_of_lt h (by decide)
theorem R.tup {g m h H} {p : Addr} {e : EV} {vs : List V} (s : S g m h H) (hp : H p = none) (r : RL g m H e vs) : R g m (upd H p (.tup vs)) (.tup e) (.ref p) :=
  ⟨p, vs, rfl, upd_same, s.free hp, r.mono (Ext.laid hp)⟩
theorem R.lst {g m h H} {p : Addr} {e : EV} {vs : List V} (s : S g m h H) (hp : H p = none) (r : RL g m H e vs) : R g m (upd H p (.lst vs)) (.lst e) (.ref p) :=
  ⟨p, vs, rfl, upd_same, s.free hp, r.mono (Ext.laid hp)⟩
/-- an answer that is given behind a new object -/
theorem post_new {σ : L2.St} {g m h H} {v : EV} {K : KE} {p : Addr} {o : HO} (s : S g m h H) (hp : H p = none) (q : PostE CV W σ g m H (.ok v h m) K) : K g m h (upd H p o) v := q g (upd H p o) (Ext.laid hp) (s.laid hp)
theorem de_tup {x1} (ha : PA X es (tA CV W a)) : PE X (.Tuple es x1 pos) (tE CV W (eTup a)) := pe_mono (pe_tup ha) fun σ H Q ⟨l, h, m, g, s, lr, p⟩ => ⟨l, h, m, g, s, lr, PostE.mono (PostE.bind p) fun g1 m1 h1 H1 v e1 s1 p1 xs rx => by
  obtain ⟨z, q⟩ := lenOk_of rx p1
  exact ⟨Nat.le_of_lt (small16 z), fun p hp => post_new s1 hp q _ (R.tup s1 hp rx)⟩⟩
theorem de_lst (ha : PA X es (tA CV W a)) : PE X (.List es pos) (tE CV W (eLst a)) := pe_mono (pe_lst ha) fun σ H Q ⟨l, h, m, g, s, lr, p⟩ => ⟨l, h, m, g, s, lr, PostE.mono (PostE.bind p) fun g1 m1 h1 H1 v e1 s1 p1 xs rx => by
  obtain ⟨z, q⟩ := lenOk_of rx p1
  exact ⟨Nat.le_of_lt (small16 z), fun p hp => post_new s1 hp q _ (R.lst s1 hp rx)⟩⟩
/-- two operands -/
theorem te_op {f : EV → EV → Tr → Nat → RE} {r : R2} (ho : Op2 CV W f r) {σ : L2.St} {H : Hp} {Q : VK} (t : tE CV W (eOp f a b) σ H Q) : tOp r (tE CV W a) (tE CV W b) σ H Q := by
  obtain ⟨l, h, m, g, s, lr, p⟩ := t
  exact ⟨l, h, m, g, s, lr, PostE.mono (PostE.bind p) fun g1 m1 h1 H1 v e1 s1 p1 x rx => ⟨l, h1, m1, g1, s1, lr.mono e1, PostE.mono (PostE.bind p1) fun g2 m2 h2 H2 w e2 s2 p2 y ry =>
    ho σ g2 m2 h2 H2 v w x y Q s2 (rx.mono e2) ry p2⟩⟩
theorem de_bin {op : Operator} {f : EV → EV → Tr → Nat → RE} {r : R2} (ho : OpR X (binaryOp op) r) (hf : Op2 CV W f r) (ha : PE X ea (tE CV W a)) (hb : PE X eb (tE CV W b)) : PE X (.BinOp ea op eb pos) (tE CV W (eOp f a b)) := pe_mono (pe_op ho ha hb) fun _ _ _ => te_op hf
theorem de_cmp {op : CmpOp} {f : EV → EV → Tr → Nat → RE} {r : R2} (ho : OpR X (compareOp op) r) (hf : Op2 CV W f r) (ha : PE X ea (tE CV W a)) (hb : PE X eb (tE CV W b)) (hm : behindInMarks op eb = false) : PE X (.Compare ea [op] [eb] pos) (tE CV W (eOp f a b)) := pe_mono (pe_cmpR ho ha hb hm) fun _ _ _ => te_op hf
theorem de_ix {f : EV → EV → Tr → Nat → RE} {r : R2} (ho : IxR X r) (hf : Op2 CV W f r) (ha : PE X ea (tE CV W a)) (hb : PE X eb (tE CV W b)) (hs : PlainIx eb) : PE X (.Subscript ea eb pos) (tE CV W (eOp f a b)) := pe_mono (pe_ix ho ha hb hs) fun _ _ _ => te_op hf
/-- a truth value -/
theorem onBl_of {σ : L2.St} {g m H} {v : EV} {x : V} {k : Bool → RE} {K : KE} (rx : R g m H v x) (p : PostE CV W σ g m H (onBl .bad k v) K) : ∃ i, v = .bl i ∧ x = .bl i ∧ PostE CV W σ g m H (k i) K := by
  cases v with
  | bl i => exact ⟨i, rfl, rx, p⟩
  | non => exact p.elim
  | int => exact p.elim
  | str => exact p.elim
  | nil => exact p.elim
  | cons => exact p.elim
  | tup => exact p.elim
  | lst => exact p.elim
  | ref => exact p.elim
  | ch => exact p.elim
theorem te_chain {f g : EV → EV → Tr → Nat → RE} {r r' : R2} (ho : Op2 CV W f r) (ho' : Op2 CV W g r') {σ : L2.St} {H : Hp} {Q : VK} (t : tE CV W (eChain f g a b c) σ H Q) : tChain r r' (tE CV W a) (tE CV W b) (tE CV W c) σ H Q := by
  obtain ⟨l, h, m, g, s, lr, p⟩ := t
  refine ⟨l, h, m, g, s, lr, PostE.mono (PostE.bind p) fun g1 m1 h1 H1 v e1 s1 p1 x rx => ⟨l, h1, m1, g1, s1, lr.mono e1, PostE.mono (PostE.bind p1) fun g2 m2 h2 H2 w e2 s2 p2 y ry => ?_⟩⟩
  refine ho σ g2 m2 h2 H2 v w x y _ s2 (rx.mono e2) ry (PostE.mono (PostE.bind p2) fun g3 m3 h3 H3 z e3 s3 p3 u ru => ?_)
  obtain ⟨k, _, ex, q⟩ := onBl_of ru p3
  refine ⟨k, ex, ?_⟩
  cases k with
  | true => exact ⟨l, h3, m3, g3, s3, ((lr.mono e1).mono e2).mono e3, PostE.mono (PostE.bind q) fun g4 m4 h4 H4 w4 e4 s4 p4 y4 ry4 => ho' σ g4 m4 h4 H4 w w4 y y4 Q s4 ((ry.mono e3).mono e4) ry4 p4⟩
  | false => exact post_ok s3 q _ rfl
theorem de_chain {op op' : CmpOp} {f g : EV → EV → Tr → Nat → RE} {r r' : R2} (ho : OpR X (compareOp op) r) (ho' : OpR X (compareOp op') r') (hf : Op2 CV W f r) (hg : Op2 CV W g r') (ha : PE X ea (tE CV W a)) (hb : PE X eb (tE CV W b)) (hc : PE X ec (tE CV W c))
    (hm : lastMarks [op, op'] [eb, ec] = false := by with_unfolding_all rfl) : PE X (.Compare ea [op, op'] [eb, ec] pos) (tE CV W (eChain f g a b c)) := pe_mono (pe_chain ho ho' ha hb hc hm) fun _ _ _ => te_chain hf hg
/-- and, or, not of truth values -/
theorem de_and {rest : List Expr} (ha : PE X ea (tE CV W a)) (hb : PE X (.BoolOp .And (eb :: rest) pos) (tE CV W b)) : PE X (.BoolOp .And (ea :: eb :: rest) pos) (tE CV W (eAnd a b)) := pe_mono (pe_and ha hb) fun σ H Q ⟨l, h, m, g, s, lr, p⟩ =>
  ⟨l, h, m, g, s, lr, PostE.mono (PostE.bind p) fun g1 m1 h1 H1 v e1 s1 p1 x rx => by
    obtain ⟨k, _, ex, q⟩ := onBl_of rx p1
    refine ⟨k, ex, ?_⟩
    cases k with
    | true => exact ⟨l, h1, m1, g1, s1, lr.mono e1, q⟩
    | false => exact post_ok s1 q _ rfl⟩
theorem de_or {rest : List Expr} (ha : PE X ea (tE CV W a)) (hb : PE X (.BoolOp .Or (eb :: rest) pos) (tE CV W b)) : PE X (.BoolOp .Or (ea :: eb :: rest) pos) (tE CV W (eOr a b)) := pe_mono (pe_or ha hb) fun σ H Q ⟨l, h, m, g, s, lr, p⟩ =>
  ⟨l, h, m, g, s, lr, PostE.mono (PostE.bind p) fun g1 m1 h1 H1 v e1 s1 p1 x rx => by
    obtain ⟨k, _, ex, q⟩ := onBl_of rx p1
    refine ⟨k, ex, ?_⟩
    cases k with
    | true => exact post_ok s1 q _ rfl
    | false => exact ⟨l, h1, m1, g1, s1, lr.mono e1, q⟩⟩
theorem de_one {op} (ha : PE X ea (tE CV W a)) : PE X (.BoolOp op [ea] pos) (tE CV W a) := pe_one ha
theorem de_not (ha : PE X ea (tE CV W a)) : PE X (.UnaryOp .Not ea pos) (tE CV W (eNot a)) := pe_mono (pe_not ha) fun σ H Q ⟨l, h, m, g, s, lr, p⟩ =>
  ⟨l, h, m, g, s, lr, PostE.mono (PostE.bind p) fun g1 m1 h1 H1 v e1 s1 p1 x rx => by
    obtain ⟨k, _, ex, q⟩ := onBl_of rx p1
    refine ⟨k, ex, ?_⟩
    cases k with
    | true => exact post_ok s1 q _ rfl
    | false => exact post_ok s1 q _ rfl⟩
/-! tests -/
theorem dt_val (ha : PE X ea (tE CV W a)) (he : ∀ whole, isTrue ea X.env whole = (do let v ← whole; standAt ea.pos; holding [v] (truthy v)) := by intro _; rfl) : PT X ea (tT CV W a) := pt_mono (pt_val ha he) fun σ H Q ⟨l, h, m, g, s, lr, p⟩ =>
  ⟨l, h, m, g, s, lr, PostE.mono p fun g1 m1 h1 H1 v e1 s1 p1 x rx => by
    obtain ⟨b, rfl, q⟩ := p1
    exact ⟨b, rx, q⟩⟩
theorem tt_op {f : EV → EV → Tr → Nat → RE} {r : R2} (ho : Op2 CV W f r) {σ : L2.St} {H : Hp} {Q : Bool → Hp → Prop} (t : tT CV W (eOp f a b) σ H Q) : tTest (tOp r (tE CV W a) (tE CV W b)) σ H Q := by
  obtain ⟨l, h, m, g, s, lr, p⟩ := t
  exact te_op ho ⟨l, h, m, g, s, lr, PostE.mono p fun g1 m1 h1 H1 v e1 s1 p1 x rx => by
    obtain ⟨b, rfl, q⟩ := p1
    exact ⟨b, rx, q⟩⟩
theorem dt_cmp {op : CmpOp} {f : EV → EV → Tr → Nat → RE} {r : R2} (ho : OpR X (compareOp op) r) (hf : Op2 CV W f r) (ha : PE X ea (tE CV W a)) (hb : PE X eb (tE CV W b)) (hm : behindInMarks op eb = false) : PT X (.Compare ea [op] [eb] pos) (tT CV W (eOp f a b)) := pt_mono (pt_cmpR ho ha hb hm) fun _ _ _ => tt_op hf
theorem dt_chain {op op' : CmpOp} {f g : EV → EV → Tr → Nat → RE} {r r' : R2} (ho : OpR X (compareOp op) r) (ho' : OpR X (compareOp op') r') (hf : Op2 CV W f r) (hg : Op2 CV W g r') (ha : PE X ea (tE CV W a)) (hb : PE X eb (tE CV W b)) (hc : PE X ec (tE CV W c))
    (hm : lastMarks [op, op'] [eb, ec] = false := by with_unfolding_all rfl) : PT X (.Compare ea [op, op'] [eb, ec] pos) (tT CV W (eChain f g a b c)) := pt_mono (pt_chain ho ho' ha hb hc hm) fun σ H Q ⟨l, h, m, g, s, lr, p⟩ =>
  te_chain hf hg ⟨l, h, m, g, s, lr, PostE.mono p fun g1 m1 h1 H1 v e1 s1 p1 x rx => by
    obtain ⟨b, rfl, q⟩ := p1
    exact ⟨b, rx, q⟩⟩
theorem dt_not (ha : PT X ea (tT CV W a)) : PT X (.UnaryOp .Not ea pos) (tT CV W (eNot a)) := pt_mono (pt_not ha) fun σ H Q ⟨l, h, m, g, s, lr, p⟩ =>
  ⟨l, h, m, g, s, lr, PostE.mono (PostE.bind p) fun g1 m1 h1 H1 v e1 s1 p1 => by
    obtain ⟨k, ev, _, q⟩ := onBl_of (x := .bl (match v with | .bl b => b | _ => false)) (by cases v <;> first | rfl | exact (show False from p1).elim) p1
    refine ⟨k, ev, ?_⟩
    cases k with
    | true => obtain ⟨b, eb, q⟩ := post_ok s1 q; cases eb; exact q
    | false => obtain ⟨b, eb, q⟩ := post_ok s1 q; cases eb; exact q⟩
theorem dw_one {op} (ha : PT X ea (tT CV W a)) : PW X (.BoolOp op [ea] pos) (tT CV W a) := by
  cases op with
  | And => exact pw_and1 ha
  | Or => exact pw_or1 ha
theorem dw_and {rest : List Expr} (ha : PT X ea (tT CV W a)) (hb : PW X (.BoolOp .And (eb :: rest) pos) (tT CV W b)) : PW X (.BoolOp .And (ea :: eb :: rest) pos) (tT CV W (eAnd a b)) := by
  refine ⟨fun wh pins s σ H Q I q => (pw_and ha hb).run wh pins s σ H Q I ?_⟩
  obtain ⟨l, h, m, g, s, lr, p⟩ := q
  refine ⟨l, h, m, g, s, lr, PostE.mono (PostE.bind p) fun g1 m1 h1 H1 v e1 s1 p1 => ?_⟩
  obtain ⟨k, ev, _, q⟩ := onBl_of (x := .bl (match v with | .bl b => b | _ => false)) (by cases v <;> first | rfl | exact (show False from p1).elim) p1
  refine ⟨k, ev, ?_⟩
  cases k with
  | true => exact ⟨l, h1, m1, g1, s1, lr.mono e1, q⟩
  | false => obtain ⟨b, eb, q⟩ := post_ok s1 q; cases eb; exact q
theorem dw_or {rest : List Expr} (ha : PT X ea (tT CV W a)) (hb : PW X (.BoolOp .Or (eb :: rest) pos) (tT CV W b)) : PW X (.BoolOp .Or (ea :: eb :: rest) pos) (tT CV W (eOr a b)) := by
  refine ⟨fun wh pins s σ H Q I q => (pw_or ha hb).run wh pins s σ H Q I ?_⟩
  obtain ⟨l, h, m, g, s, lr, p⟩ := q
  refine ⟨l, h, m, g, s, lr, PostE.mono (PostE.bind p) fun g1 m1 h1 H1 v e1 s1 p1 => ?_⟩
  obtain ⟨k, ev, _, q⟩ := onBl_of (x := .bl (match v with | .bl b => b | _ => false)) (by cases v <;> first | rfl | exact (show False from p1).elim) p1
  refine ⟨k, ev, ?_⟩
  cases k with
  | true => obtain ⟨b, eb, q⟩ := post_ok s1 q; cases eb; exact q
  | false => exact ⟨l, h1, m1, g1, s1, lr.mono e1, q⟩
theorem dt_w (h : PW X ea (tT CV W a)) : PT X ea (tT CV W a) := h.pt
theorem de_if {ec ea eb : Expr} {c a b : CE} (hc : PT X ec (tT CV W c)) (ha : PE X ea (tE CV W a)) (hb : PE X eb (tE CV W b)) : PE X (.IfExp ec ea eb pos) (tE CV W (eIf c a b)) := pe_mono (pe_ifExp hc ha hb) fun σ H Q ⟨l, h, m, g, s, lr, p⟩ =>
  ⟨l, h, m, g, s, lr, PostE.mono (PostE.bind p) fun g1 m1 h1 H1 v e1 s1 p1 => by
    obtain ⟨k, ev, _, q⟩ := onBl_of (x := .bl (match v with | .bl b => b | _ => false)) (by cases v <;> first | rfl | exact (show False from p1).elim) p1
    refine ⟨k, ev, ?_⟩
    cases k with
    | true => exact ⟨l, h1, m1, g1, s1, lr.mono e1, q⟩
    | false => exact ⟨l, h1, m1, g1, s1, lr.mono e1, q⟩⟩
/-- a built-in by name -/
theorem de_bi {x : Str} {id : String} {f : EV → Tr → Nat → RE} {r : List V → Hp → VK → Prop} {e : Expr} {p : Pos} (hc : CallR X (.builtin id) r) (hf : OpN CV W f r) (hg : Gl X x) (hm : X.mg x = none) (hv : bootBuiltins x = some (.builtin id)) (ha : PA X (e :: es) (tA CV W a)) (hn : x ≠ "__name__" := by decide) (hdb : (x == ("__debug__" : Str)) = false := by decide)
    (he : starEach (e :: es) X.env = (false, eval e X.env) :: starEach es X.env := by rfl) (hpl : (backTo pos (starEach es X.env)).any (·.1) = false := by rfl) : PE X (.Call (.Name x p) (e :: es) [] pos) (tE CV W (eBi f a)) :=
  pe_mono (pe_callB hc hg hm hv ha hn hdb he hpl) fun σ H Q ⟨l, h, m, g, s, lr, p⟩ => ⟨l, h, m, g, s, lr, PostE.mono (PostE.bind p) fun g1 m1 h1 H1 v e1 s1 p1 xs rx => hf σ g1 m1 h1 H1 v xs Q s1 rx p1⟩
end
end Rf

namespace Rf
open PySem L2
/-! ### statements -/
noncomputable def bindS (r : RS) (k : CS) : RS := RS.rec (motive := fun _ => RS) k (fun v h m => .ret v h m) (fun l h m => .brk l h m) (fun l h m => .cnt l h m) (fun c l h m => .exc c l h m) .bad r
noncomputable def sNx : CS := fun l h m => .nx l h m
noncomputable def sSeq (a b : CS) : CS := fun l h m => bindS (a l h m) b
noncomputable def sAsg (i : Nat) (e : CE) : CS := fun l h m => bindES (e l h m) l fun v h m => lsetK v .bad l i fun l => .nx l h m
noncomputable def sIf (c : CE) (a b : CS) : CS := fun l h m => bindES (c l h m) l fun v h m => onBl .bad (fun t => Bool.rec (motive := fun _ => RS) (b l h m) (a l h m) t) v
noncomputable def sRet (e : CE) : CS := fun l h m => bindES (e l h m) l fun v h m => .ret v h m
noncomputable def sRetN : CS := fun l h m => .ret .non h m
noncomputable def sEx (e : CE) : CS := fun l h m => bindES (e l h m) l fun _ h m => .nx l h m
noncomputable def sBrk : CS := fun l h m => .brk l h m
noncomputable def sCnt : CS := fun l h m => .cnt l h m
noncomputable def sRaise (c : Nat) : CS := fun l h m => .exc c l h m
section
variable {X : Cx} {CV : Nat → Value} {W : WX} {a b : CS} {e c : CE} {ee ec : Expr} {st : Stmt} {sa sb rest : List Stmt} {pos : Pos}
theorem tS_seq {D : Ends} {σ : L2.St} {H : Hp} (t : tS CV W (sSeq a b) D σ H) : tSeq (tS CV W a) (tS CV W b) D σ H := by
  obtain ⟨l, h, m, g, s, lr, p⟩ := t
  refine ⟨l, h, m, g, s, lr, ?_⟩
  have p' : PostS CV W g m H (bindS (a l h m) b) D := p
  cases z : a l h m with
  | nx l' h' m' =>
    rw [z] at p'
    exact fun g' H' σ' e s' lr' => ⟨l', h', m', g', s', lr', PostS.shift (show PostS CV W g m H (b l' h' m') D from p') e⟩
  | ret => rw [z] at p'; exact p'
  | brk => rw [z] at p'; exact p'
  | cnt => rw [z] at p'; exact p'
  | exc => rw [z] at p'; exact p'
  | bad => rw [z] at p'; exact p'
theorem dss_nil : PSs X [] (tS CV W sNx) := pss_mono pss_nil fun D σ H ⟨l, h, m, g, s, lr, p⟩ => p g H σ Ext.refl s lr
theorem dss_cons (h1 : PS X st (tS CV W a)) (h2 : PSs X rest (tS CV W b)) : PSs X (st :: rest) (tS CV W (sSeq a b)) := pss_mono (pss_cons h1 h2) fun _ _ _ => tS_seq
theorem dss_one (h1 : PS X st (tS CV W a)) : PSs X [st] (tS CV W a) := pss_one h1
theorem ds_pass : PS X (.Pass pos) (tS CV W sNx) := ps_mono ps_pass fun D σ H ⟨l, h, m, g, s, lr, p⟩ => p g H σ Ext.refl s lr
theorem ds_break : PS X (.Break pos) (tS CV W sBrk) := ps_mono ps_break fun D σ H ⟨l, h, m, g, s, lr, p⟩ => p g H σ Ext.refl s lr
theorem ds_continue : PS X (.Continue pos) (tS CV W sCnt) := ps_mono ps_continue fun D σ H ⟨l, h, m, g, s, lr, p⟩ => p g H σ Ext.refl s lr
theorem ds_set {i : Nat} {x : Str} {pos' : Pos} (he : PE X ee (tE CV W e)) (hp : PS X (.Assign [.Name x pos'] ee pos) (tAsg (tE CV W e) (gName i))) : PS X (.Assign [.Name x pos'] ee pos) (tS CV W (sAsg i e)) :=
  ps_mono hp fun D σ H ⟨l, h, m, g, s, lr, p⟩ => ⟨l, h, m, g, s, lr, PostE.mono (PostS.bind lr p) fun g1 m1 h1 H1 v e1 s1 p1 x rx => by
    rcases lsetK_eq v RS.bad l i (fun l => RS.nx l h1 m1) with ⟨l', el, hn, q⟩ | q
    · rw [q] at p1
      exact p1 g1 H1 _ Ext.refl s1 ((lr.mono e1).set el hn rx)
    · rw [q] at p1; exact p1.elim⟩
theorem onBl_ofS {g m H} {v : EV} {k : Bool → RS} {D : Ends} (p : PostS CV W g m H (onBl .bad k v) D) : ∃ i, v = .bl i ∧ PostS CV W g m H (k i) D := by
  cases v with
  | bl i => exact ⟨i, rfl, p⟩
  | non => exact p.elim
  | int => exact p.elim
  | str => exact p.elim
  | nil => exact p.elim
  | cons => exact p.elim
  | tup => exact p.elim
  | lst => exact p.elim
  | ref => exact p.elim
  | ch => exact p.elim
theorem ds_if (hc : PT X ec (tT CV W c)) (ha : PSs X sa (tS CV W a)) (hb : PSs X sb (tS CV W b)) : PS X (.If ec sa sb pos) (tS CV W (sIf c a b)) := ps_mono (ps_if hc ha hb) fun D σ H ⟨l, h, m, g, s, lr, p⟩ =>
  ⟨l, h, m, g, s, lr, PostE.mono (PostS.bind lr p) fun g1 m1 h1 H1 v e1 s1 p1 => by
    obtain ⟨i, ev, q⟩ := onBl_ofS p1
    refine ⟨i, ev, ?_⟩
    cases i with
    | true => exact ⟨l, h1, m1, g1, s1, lr.mono e1, q⟩
    | false => exact ⟨l, h1, m1, g1, s1, lr.mono e1, q⟩⟩
theorem ds_ret (he : PE X ee (tE CV W e)) : PS X (.Return (some ee) pos) (tS CV W (sRet e)) := ps_mono (ps_ret he) fun D σ H ⟨l, h, m, g, s, lr, p⟩ =>
  ⟨l, h, m, g, s, lr, PostE.mono (PostS.bind lr p) fun g1 m1 h1 H1 v e1 s1 p1 x rx => p1 g1 H1 x Ext.refl s1 rx⟩
theorem ds_retN : PS X (.Return none pos) (tS CV W sRetN) := ps_mono ps_retN fun D σ H ⟨l, h, m, g, s, lr, p⟩ => p g H .non Ext.refl s rfl
theorem ds_expr (hp : PS X st (tDrop (tE CV W e))) : PS X st (tS CV W (sEx e)) := ps_mono hp fun D σ H ⟨l, h, m, g, s, lr, p⟩ =>
  ⟨l, h, m, g, s, lr, PostE.mono (PostS.bind lr p) fun g1 m1 h1 H1 v e1 s1 p1 x rx => p1 g1 H1 σ Ext.refl s1 (lr.mono e1)⟩
/-- raise X('..'), X without an __init__ of its own -/
theorem ds_raise {k : Nat} {C : Value} (hC : CV k = C) (hp : PS X st (fun _ σ H => W C none σ H)) : PS X st (tS CV W (sRaise k)) := ps_mono hp fun D σ H ⟨l, h, m, g, s, lr, p⟩ => by
  have q := p g H σ Ext.refl s lr
  rw [hC] at q
  exact q

/-! ### for -/
/-- a target: a name, or names that a tuple is unpacked to -/
abbrev CG := EV → Tr → LL → (LL → RS) → RS
noncomputable def gN (i : Nat) : CG := fun v _ l k => lsetK v .bad l i k
def tG (CV : Nat → Value) (W : WX) (cg : CG) (gt : TG) : Prop := ∀ (g : Gm) (m : Nat) (h : Tr) (H : Hp) (l : LL) (σ : L2.St) (v : EV) (x : V) (k : LL → RS) (D : Ends) (Q : L2.St → Hp → Prop), S g m h H → LR g m H l σ → R g m H v x →
  PostS CV W g m H (cg v h l k) D → (∀ l' σ', LR g m H l' σ' → PostS CV W g m H (k l') D → Q σ' H) → gt x σ H Q
theorem tG_name (i : Nat) : tG CV W (gN i) (gName i) := fun g m h H l σ v x k D Q s lr rx p q => by
  rcases lsetK_eq v RS.bad l i k with ⟨l', el, hn, e⟩ | e
  · have p' : PostS CV W g m H (lsetK v RS.bad l i k) D := p
    rw [e] at p'
    exact q l' _ (lr.set el hn rx) p'
  · have p' : PostS CV W g m H (lsetK v RS.bad l i k) D := p
    rw [e] at p'; exact p'.elim
noncomputable def forL (g : CG) (body : CS) (xs : EV) : CS := EV.rec (motive := fun _ => CS) (fun _ _ _ => .bad) (fun _ _ _ _ => .bad) (fun _ _ _ _ => .bad) (fun _ _ _ _ _ => .bad) (fun l h m => .nx l h m)
  (fun x _ _ ih l h m => g x h l fun l' => RS.rec (motive := fun _ => RS) ih (fun v h m => .ret v h m) (fun l h m => .nx l h m) ih (fun c l h m => .exc c l h m) .bad (body l' h m)) (fun _ _ _ _ _ => .bad) (fun _ _ _ _ _ => .bad) (fun _ _ _ _ => .bad) (fun _ _ _ _ => .bad) xs
noncomputable def sFor (g : CG) (it : CE) (body : CS) : CS := fun l h m => bindES (it l h m) l fun v h m => EV.rec (motive := fun _ => RS) .bad (fun _ => .bad) (fun _ => .bad) (fun _ _ => .bad) .bad (fun _ _ _ _ => .bad) (fun xs _ => forL g body xs l h m) (fun xs _ => forL g body xs l h m) (fun _ => .bad) (fun _ => .bad) v
/-- the loop's state at turn i; F: what stays as it is -/
def At (CV : Nat → Value) (W : WX) (F : Gm → Hp → Prop) (D : Ends) (cg : CG) (body : CS) (vs : List V) (i : Nat) (σ : L2.St) (H : Hp) : Prop :=
  ∃ l h m g e, S g m h H ∧ LR g m H l σ ∧ F g H ∧ RL g m H e (vs.drop i) ∧ PostS CV W g m H (forL cg body e l h m) D
def Stays (F : Gm → Hp → Prop) : Prop := ∀ g m H g' m' H', Ext g m H g' m' H' → F g H → F g' H'
theorem stays_yes : Stays fun _ _ => True := fun _ _ _ _ _ _ _ _ => trivial
theorem stays_at (a : Addr) (o : HO) : Stays fun g H => H a = some o ∧ ¬ g.M a := fun g m H g' m' H' e ⟨h1, h2⟩ => ⟨e.keep _ _ h1 fun z => h2 (g.sub a z), e.out h1 h2⟩
theorem RL.nil_of {g m H} {e : EV} (r : RL g m H e []) : e = .nil := by
  cases e with
  | nil => rfl
  | cons => obtain ⟨_, _, e, _⟩ := r; cases e
  | non => exact r.elim
  | bl => exact r.elim
  | int => exact r.elim
  | str => exact r.elim
  | tup => exact r.elim
  | lst => exact r.elim
  | ref => exact r.elim
  | ch => exact r.elim
theorem RL.cons_of {g m H} {e : EV} {x : V} {xs : List V} (r : RL g m H e (x :: xs)) : ∃ v t, e = .cons v t ∧ R g m H v x ∧ RL g m H t xs := by
  cases e with
  | cons v t =>
    obtain ⟨x', r', ex, rx, rr⟩ := r
    injection ex with e1 e2
    subst e1; subst e2
    exact ⟨v, t, rfl, rx, rr⟩
  | nil => exact nomatch r
  | non => exact r.elim
  | bl => exact r.elim
  | int => exact r.elim
  | str => exact r.elim
  | tup => exact r.elim
  | lst => exact r.elim
  | ref => exact r.elim
  | ch => exact r.elim
theorem At.turn {F : Gm → Hp → Prop} {D : Ends} {cg : CG} {tg : TG} {body : CS} {tb : TS} {vs : List V} (hF : Stays F) (hg : tG CV W cg tg) (hb : ∀ D σ H, tS CV W body D σ H → tb D σ H) {i : Nat} {x : V} {σ : L2.St} {H : Hp} (hx : vs[i]? = some x) (w : At CV W F D cg body vs i σ H) :
    tg x σ H fun σ2 H2 => tb { D with nx := At CV W F D cg body vs (i + 1), ct := At CV W F D cg body vs (i + 1), bk := D.nx } σ2 H2 := by
  obtain ⟨l, h, m, g, e, s, lr, ha, rl, p⟩ := w
  have hd : vs.drop i = x :: vs.drop (i + 1) := by
    obtain ⟨h1, h2⟩ := List.getElem?_eq_some_iff.mp hx
    rw [← h2]; exact List.drop_eq_getElem_cons h1
  rw [hd] at rl
  obtain ⟨v, r, rfl, rx, rr⟩ := rl.cons_of
  refine hg g m h H l σ v x _ D _ s lr rx p fun l' σ' lr' p' => hb _ _ _ ⟨l', h, m, g, s, lr', ?_⟩
  have nxt : ∀ l2 h2 m2, PostS CV W g m H (forL cg body r l2 h2 m2) D → ∀ g' H' σ', Ext g m H g' m2 H' → S g' m2 h2 H' → LR g' m2 H' l2 σ' → At CV W F D cg body vs (i + 1) σ' H' := fun l2 h2 m2 q g' H' σ' ex s' lr2 =>
    ⟨l2, h2, m2, g', r, s', lr2, hF _ _ _ _ _ _ ex ha, RL.mono ex rr, PostS.shift q ex⟩
  cases z : body l' h m with
  | nx l2 h2 m2 => rw [z] at p'; exact nxt l2 h2 m2 p'
  | cnt l2 h2 m2 => rw [z] at p'; exact nxt l2 h2 m2 p'
  | ret => rw [z] at p'; exact p'
  | brk => rw [z] at p'; exact p'
  | exc => rw [z] at p'; exact p'
  | bad => rw [z] at p'; exact p'
theorem At.done {F : Gm → Hp → Prop} {D : Ends} {cg : CG} {body : CS} {vs : List V} {σ : L2.St} {H : Hp} (w : At CV W F D cg body vs vs.length σ H) : D.nx σ H := by
  obtain ⟨l, h, m, g, e, s, lr, ha, rl, p⟩ := w
  rw [List.drop_length] at rl
  have e1 := rl.nil_of
  subst e1
  exact p g H σ Ext.refl s lr
theorem pi_or {tg iter : Expr} {w1 w2 : TI} (h1 : PI X tg iter w1) (h2 : PI X tg iter w2) : PI X tg iter (fun σ H Rr => w1 σ H Rr ∨ w2 σ H Rr) := ⟨fun pins s σ H Rr I q => q.elim (h1.run pins s σ H Rr I) (h2.run pins s σ H Rr I)⟩
/-- for x in a list or a tuple -/
theorem ds_for {tg iter : Expr} {body : List Stmt} {gt : TG} {cg : CG} {it : CE} {cb : CS} (hp : PassesOwn (model X.prog X.w) X.A X.env X.xe) (hc : X.calm = true) (hi : PE X iter (tE CV W it)) (hg : PG X tg gt) (hcg : tG CV W cg gt) (hb : PSs X body (tS CV W cb))
    (hs : ∀ x, foldedSetIterable iter X.env x = pure x := by intro _; rfl) : PS X (.For tg iter body [] pos) (tS CV W (sFor cg it cb)) := by
  refine ps_mono (ps_for hp hc (pi_or (pi_list hi) (pi_tup hi)) hg hb hs) fun D σ H ⟨l, h, m, g, s, lr, p⟩ => ?_
  have p' := PostS.bind lr p
  have noEnd : ∀ Rr : It → Hp → Prop, it l h m = .bad → iList X.K (tE CV W it) σ H Rr := fun Rr z => by rw [z] at p'; exact p'.elim
  cases z : it l h m with
  | bad => exact .inl (noEnd _ z)
  | exc c h1 m1 => exact .inl ⟨l, h, m, g, s, lr, by rw [z] at p' ⊢; exact p'⟩
  | ok v h1 m1 =>
    rw [z] at p'
    cases v with
    | lst xs =>
      refine .inl ⟨l, h, m, g, s, lr, ?_⟩
      rw [z]
      intro g1 H1 e1 s1 x ⟨a, vs, ex, ha, na, rl⟩
      refine ⟨a, ex, ⟨vs, SqL.of ha⟩, for_list (At CV W (fun g H => H a = some (.lst vs) ∧ ¬ g.M a) D cg cb vs) ⟨l, h1, m1, g1, xs, s1, lr.mono e1, ⟨ha, na⟩, rl, p' g1 H1 e1 s1⟩ (fun i σ H _ w => ?_)
        (fun i x σ H hx w => At.turn (stays_at a _) hcg (fun _ _ _ q => q) hx w) fun σ H w => w.done⟩
      obtain ⟨_, _, _, _, _, _, _, ⟨q, _⟩, _⟩ := w
      exact SqL.of q
    | tup xs =>
      refine .inr ⟨l, h, m, g, s, lr, ?_⟩
      rw [z]
      intro g1 H1 e1 s1 x ⟨a, vs, ex, ha, na, rl⟩
      refine ⟨a, ex, ⟨vs, SqT.of ha⟩, for_tup (At CV W (fun g H => H a = some (.tup vs) ∧ ¬ g.M a) D cg cb vs) ⟨l, h1, m1, g1, xs, s1, lr.mono e1, ⟨ha, na⟩, rl, p' g1 H1 e1 s1⟩ (fun i σ H _ w => ?_)
        (fun i x σ H hx w => At.turn (stays_at a _) hcg (fun _ _ _ q => q) hx w) fun σ H w => w.done⟩
      obtain ⟨_, _, _, _, _, _, _, ⟨q, _⟩, _⟩ := w
      exact SqT.of q
    | non => exact .inl ⟨l, h, m, g, s, lr, by rw [z]; exact fun g1 H1 e1 s1 => (p' g1 H1 e1 s1).elim⟩
    | bl => exact .inl ⟨l, h, m, g, s, lr, by rw [z]; exact fun g1 H1 e1 s1 => (p' g1 H1 e1 s1).elim⟩
    | int => exact .inl ⟨l, h, m, g, s, lr, by rw [z]; exact fun g1 H1 e1 s1 => (p' g1 H1 e1 s1).elim⟩
    | str => exact .inl ⟨l, h, m, g, s, lr, by rw [z]; exact fun g1 H1 e1 s1 => (p' g1 H1 e1 s1).elim⟩
    | nil => exact .inl ⟨l, h, m, g, s, lr, by rw [z]; exact fun g1 H1 e1 s1 => (p' g1 H1 e1 s1).elim⟩
    | cons => exact .inl ⟨l, h, m, g, s, lr, by rw [z]; exact fun g1 H1 e1 s1 => (p' g1 H1 e1 s1).elim⟩
    | ref => exact .inl ⟨l, h, m, g, s, lr, by rw [z]; exact fun g1 H1 e1 s1 => (p' g1 H1 e1 s1).elim⟩
    | ch => exact .inl ⟨l, h, m, g, s, lr, by rw [z]; exact fun g1 H1 e1 s1 => (p' g1 H1 e1 s1).elim⟩
/-- for i in range(a, b) -/
noncomputable def rangeK {α : Type} (n : Nat) : Int → (EV → α) → α := Nat.rec (motive := fun _ => Int → (EV → α) → α) (fun _ k => k .nil)
  (fun _ ih a k => Int.rec (motive := fun _ => α) (fun a0 => forceN (Nat.succ a0) fun a1 => ih (.ofNat a1) fun z => k (.cons (.int a) z)) (fun _ => ih (a + 1) fun z => k (.cons (.int a) z)) a) n
theorem rangeK_eq {α : Type} : ∀ (n : Nat) (a : Int) (k : EV → α), ∃ z, rangeK n a k = k z ∧ ∀ g m H, RL g m H z ((List.range n).map fun i => V.int (a + (i : Nat)))
  | 0, a, k => ⟨.nil, rfl, fun _ _ _ => rfl⟩
  | n + 1, a, k => by
    obtain ⟨z, e, q⟩ := rangeK_eq n (a + 1) (fun z => k (.cons (.int a) z))
    refine ⟨.cons (.int a) z, ?_, fun g m H => ?_⟩
    · rw [← e]
      cases a with
      | ofNat a0 =>
        show forceN (Nat.succ a0) (fun a1 => rangeK n (.ofNat a1) fun z => k (.cons (.int (.ofNat a0)) z)) = _
        rw [forceN_eq]
        rfl
      | negSucc a0 => rfl
    · rw [List.range_succ_eq_map, List.map_cons, List.map_map]
      refine ⟨_, _, rfl, by show V.int _ = V.int _; congr 1; simp, ?_⟩
      have := q g m H
      have e2 : (List.range n).map ((fun i : Nat => V.int (a + (i : Nat))) ∘ Nat.succ) = (List.range n).map fun i => V.int (a + 1 + (i : Nat)) := by
        refine List.map_congr_left fun i _ => ?_
        show V.int (a + ((i + 1 : Nat) : Int)) = _
        congr 1
        omega
      rw [e2]
      exact this
end
end Rf

namespace Rf
open PySem L2
/-! ### for i in range -/
noncomputable def sForR1 (cg : CG) (b : CE) (body : CS) : CS := fun l h m => bindES (b l h m) l fun y h m => onInt RS.bad (fun j =>
  Bool.rec (motive := fun _ => RS) .bad (rangeK j.toNat 0 fun e => forL cg body e l h m) (Nat.ble j.natAbs 100000000)) y
noncomputable def sForR2 (cg : CG) (a b : CE) (body : CS) : CS := fun l h m => bindES (a l h m) l fun x h m => bindES (b l h m) l fun y h m => onInt RS.bad (fun i => onInt RS.bad (fun j =>
  Bool.rec (motive := fun _ => RS) .bad (rangeK (Int.sub j i).toNat i fun e => forL cg body e l h m) (Nat.ble (Nat.add i.natAbs j.natAbs) 100000000)) y) x
theorem bcase {b : Bool} {A B : RS} {P : RS → Prop} (h : P (Bool.rec (motive := fun _ => RS) A B b)) : (b = false ∧ P A) ∨ (b = true ∧ P B) := by
  cases b with
  | false => exact .inl ⟨rfl, h⟩
  | true => exact .inr ⟨rfl, h⟩
section
variable {X : Cx} {CV : Nat → Value} {W : WX} {a b : CS} {e c : CE} {ee ec : Expr} {st : Stmt} {sa sb rest : List Stmt} {pos p : Pos}
theorem onInt_ofS {g m H} {v : EV} {x : V} {k : Int → RS} {D : Ends} (rx : R g m H v x) (p : PostS CV W g m H (onInt .bad k v) D) : ∃ i, v = .int i ∧ x = .int i ∧ PostS CV W g m H (k i) D := by
  cases v with
  | int i => exact ⟨i, rfl, rx, p⟩
  | non => exact p.elim
  | bl => exact p.elim
  | str => exact p.elim
  | nil => exact p.elim
  | cons => exact p.elim
  | tup => exact p.elim
  | lst => exact p.elim
  | ref => exact p.elim
  | ch => exact p.elim
theorem rng_go {D : Ends} {cg : CG} {gt : TG} {cb : CS} {tb : TS} {lo : Int} {n : Nat} {l : LL} {h : Tr} {m : Nat} {g : Gm} {σ : L2.St} {H : Hp} (hcg : tG CV W cg gt) (hb : ∀ D σ H, tS CV W cb D σ H → tb D σ H) (s : S g m h H) (lr : LR g m H l σ)
    (q : PostS CV W g m H (rangeK n lo fun e => forL cg cb e l h m) D) : ∃ Wf : Nat → Nat → L2.St → Hp → Prop, (∃ m, Wf 0 m σ H) ∧ ∀ i m σ H, Wf i m σ H →
      ((Itr lo n).stop i H ∧ D.nx σ H) ∨ ((Itr lo n).go i H ∧ ∃ N : L2.St → Hp → Prop, (∀ σ' H', N σ' H' → ∃ m', m' < m ∧ Wf (i + 1) m' σ' H') ∧ ∀ x H', (Itr lo n).yld i H x H' → gt x σ H' fun σ2 H2 => tb { D with nx := N, ct := N, bk := D.nx } σ2 H2) := by
  obtain ⟨z, ez, rz⟩ := rangeK_eq (α := RS) n lo (fun e => forL cg cb e l h m)
  rw [ez] at q
  have hlen : ((List.range n).map fun i => V.int (lo + (i : Nat))).length = n := by rw [List.length_map, List.length_range]
  refine for_range (At CV W (fun _ _ => True) D cg cb ((List.range n).map fun i => V.int (lo + (i : Nat)))) ⟨l, h, m, g, z, s, lr, trivial, rz g m H, q⟩ (fun i σ H hi w => ?_) fun σ H w => ?_
  · exact At.turn stays_yes hcg hb (by rw [List.getElem?_map, List.getElem?_range hi] <;> rfl) w
  · have w' : At CV W (fun _ _ => True) D cg cb ((List.range n).map fun i => V.int (lo + (i : Nat))) ((List.range n).map fun i => V.int (lo + (i : Nat))).length σ H := by rw [hlen]; exact w
    exact w'.done
theorem ds_forR1 {tg ia : Expr} {body : List Stmt} {gt : TG} {cg : CG} {ca : CE} {cb : CS} {p1 p2 : Pos} (hp : PassesOwn (model X.prog X.w) X.A X.env X.xe) (hc : X.calm = true) (hr : Gl X "range") (hm : X.mg "range" = none) (ha : PE X ia (tE CV W ca)) (hg : PG X tg gt) (hcg : tG CV W cg gt) (hb : PSs X body (tS CV W cb))
    (hse : starEach [ia] X.env = [(false, eval ia X.env)] := by rfl) (hs : ∀ x, foldedSetIterable (.Call (.Name "range" p1) [ia] [] p2) X.env x = pure x := by intro _; rfl) : PS X (.For tg (.Call (.Name "range" p1) [ia] [] p2) body [] pos) (tS CV W (sForR1 cg ca cb)) := by
  refine ps_mono (ps_for hp hc (pi_range1 hr hm (pa_cons ha pa_nil hse) hse) hg hb hs) fun D σ H ⟨l, h, m, g, s, lr, p⟩ => ?_
  refine ⟨l, h, m, g, s, lr, PostE.mono (PostS.bind lr p) fun g1 m1 h1 H1 v e1 s1 p1 x rx => ?_⟩
  obtain ⟨j, rfl, rfl, q⟩ := onInt_ofS rx p1
  rcases bcase (P := fun r => PostS CV W g1 m1 H1 r D) q with ⟨_, q⟩ | ⟨z, q⟩
  · exact q.elim
  have hj := Nat.le_of_ble_eq_true z
  exact ⟨j, rfl, by omega, by omega, rng_go hcg (fun _ _ _ q => q) s1 (lr.mono e1) q⟩
theorem ds_forR2 {tg ia ib : Expr} {body : List Stmt} {gt : TG} {cg : CG} {ca cb' : CE} {cb : CS} {p1 p2 : Pos} (hp : PassesOwn (model X.prog X.w) X.A X.env X.xe) (hc : X.calm = true) (hr : Gl X "range") (hm : X.mg "range" = none) (ha : PE X ia (tE CV W ca)) (hb' : PE X ib (tE CV W cb')) (hg : PG X tg gt) (hcg : tG CV W cg gt) (hb : PSs X body (tS CV W cb))
    (hse : starEach [ia, ib] X.env = [(false, eval ia X.env), (false, eval ib X.env)] := by rfl) (hse2 : starEach [ib] X.env = [(false, eval ib X.env)] := by rfl) (hs : ∀ x, foldedSetIterable (.Call (.Name "range" p1) [ia, ib] [] p2) X.env x = pure x := by intro _; rfl) :
    PS X (.For tg (.Call (.Name "range" p1) [ia, ib] [] p2) body [] pos) (tS CV W (sForR2 cg ca cb' cb)) := by
  refine ps_mono (ps_for hp hc (pi_range2 hr hm (pa_cons ha (pa_cons hb' pa_nil hse2) (by rw [hse, hse2])) hse hse2) hg hb hs) fun D σ H ⟨l, h, m, g, s, lr, p⟩ => ?_
  refine ⟨l, h, m, g, s, lr, PostE.mono (PostS.bind lr p) fun g1 m1 h1 H1 v e1 s1 p1 x rx => ?_⟩
  refine ⟨l, h1, m1, g1, s1, lr.mono e1, PostE.mono (PostS.bind (lr.mono e1) p1) fun g2 m2 h2 H2 w e2 s2 p2 y ry => ?_⟩
  obtain ⟨i, rfl, rfl, q⟩ := onInt_ofS (R.mono e2 rx) p2
  obtain ⟨j, rfl, rfl, q⟩ := onInt_ofS ry q
  rcases bcase (P := fun r => PostS CV W g2 m2 H2 r D) q with ⟨_, q⟩ | ⟨z, q⟩
  · exact q.elim
  have hj : i.natAbs + j.natAbs ≤ 100000000 := Nat.le_of_ble_eq_true z
  exact ⟨i, j, rfl, ⟨by omega, by omega, by omega, by omega⟩, rng_go hcg (fun _ _ _ q => q) s2 ((lr.mono e1).mono e2) q⟩

/-! ### defs -/
abbrev Fns := Nat → EV → Tr → Nat → RE
noncomputable def arK (r : RE) (n : Nat) : EV → RE := Nat.rec (motive := fun _ => EV → RE) (fun xs => EV.rec (motive := fun _ => RE) .bad (fun _ => .bad) (fun _ => .bad) (fun _ _ => .bad) r (fun _ _ _ _ => .bad) (fun _ _ => .bad) (fun _ _ => .bad) (fun _ => .bad) (fun _ => .bad) xs)
  (fun _ ih xs => onCons .bad (fun _ t => ih t) xs) n
theorem arK_of {P : RE → Prop} (hbad : ¬ P .bad) {r : RE} {g m H} : ∀ (n : Nat) (xs : EV) (vs : List V), RL g m H xs vs → P (arK r n xs) → vs.length = n ∧ P r
  | 0, xs, vs, rl, p => by
    cases vs with
    | nil =>
      have e := rl.nil_of
      subst e
      exact ⟨rfl, p⟩
    | cons v vs =>
      obtain ⟨_, _, e, _, _⟩ := rl.cons_of
      subst e
      exact absurd p hbad
  | n + 1, xs, vs, rl, p => by
    cases vs with
    | nil =>
      have e := rl.nil_of
      subst e
      exact absurd p hbad
    | cons v vs =>
      obtain ⟨_, t, e, _, rt⟩ := rl.cons_of
      subst e
      obtain ⟨a, b⟩ := arK_of hbad n t vs rt p
      exact ⟨by rw [List.length_cons, a], b⟩
noncomputable def eCall (F : Fns) (f n : Nat) (es : CE) : CE := fun l h m => bindE (es l h m) fun xs h m => arK (F f xs h m) n xs
/-- what a def promises: what is reckoned of it -/
def spF (CV : Nat → Value) (F : Fns) (f n : Nat) : Sp := fun vs H Q E => vs.length = n ∧ ∃ xs h m g, S g m h H ∧ RL g m H xs vs ∧ PostE CV (fun c d _ H => E c d H) [] g m H (F f xs h m) fun g' m' _ H' v => ∀ x, R g' m' H' v x → Q x H'
noncomputable def toLL {α : Type} (pad : LL) (xs : EV) : (LL → α) → α := EV.rec (motive := fun _ => (LL → α) → α) (fun k => k pad) (fun _ k => k pad) (fun _ k => k pad) (fun _ _ k => k pad) (fun k => k pad)
  (fun x _ _ ih k => ih fun r => k (.as x r)) (fun _ _ k => k pad) (fun _ _ k => k pad) (fun _ k => k pad) (fun _ k => k pad) xs
def pads : Nat → LL
  | 0 => .nil
  | n + 1 => .un (pads n)
noncomputable def ofS (r : RS) : RE := RS.rec (motive := fun _ => RE) (fun _ h m => .ok .non h m) (fun v h m => .ok v h m) (fun _ _ _ => .bad) (fun _ _ _ => .bad) (fun c _ h m => .exc c h m) .bad r
noncomputable def mkFn (pad : Nat) (body : CS) (xs : EV) (h : Tr) (m : Nat) : RE := toLL (pads pad) xs fun l => ofS (body l h m)
theorem pads_LLs : ∀ n, LLs (pads n) = List.replicate n none
  | 0 => rfl
  | n + 1 => by show none :: LLs (pads n) = _; rw [pads_LLs n]; rfl
theorem toLL_eq {α : Type} {g m H} (n : Nat) : ∀ (xs : EV) (vs : List V), RL g m H xs vs → ∀ k : LL → α, ∃ l, toLL (pads n) xs k = k l ∧ LR g m H l (vs.map some ++ List.replicate n none)
  | xs, [], rl, k => by
    have e := rl.nil_of
    subst e
    refine ⟨pads n, rfl, by rw [pads_LLs]; simp, fun i x q => ?_⟩
    rw [pads_LLs, List.getElem?_replicate] at q
    split at q <;> cases q
  | xs, v :: vs, rl, k => by
    obtain ⟨w, t, e, rv, rt⟩ := rl.cons_of
    subst e
    obtain ⟨l, el, lr⟩ := toLL_eq n t vs rt (fun r => k (.as w r))
    refine ⟨.as w l, el, ?_, fun i x q => ?_⟩
    · show _ = (some w :: LLs l).length
      rw [List.length_cons, ← lr.len]
      simp
    · cases i with
      | zero =>
        have q' : some (some w) = some (some x) := q
        cases q'
        exact ⟨v, rfl, rv⟩
      | succ i => exact lr.get i x q
theorem de_call {x : Str} {f : Addr} {fd : FuncData} {ps : List Str} {F : Fns} {id n k : Nat} {e : Expr} {es : List Expr} {ca : CE} (Fo : FnOk X.prog X.w X.K X.mg X.base (L2.CX X.prog X.w) k f fd ps (spF CV F id n)) (tk : Takes X W) (hr : Room k X.A) (hg : Gl X x) (hm : X.mg x = some (.ref f)) (hk : PySem.W.keepIn X.K (.ref f) = true) (hb : Binds X.K fd ps [])
    (ha : PA X (e :: es) (tA CV W ca)) (hdb : (x == ("__debug__" : Str)) = false := by decide) (he : starEach (e :: es) X.env = (false, eval e X.env) :: starEach es X.env := by rfl) (hpl : (backTo pos (starEach es X.env)).any (·.1) = false := by rfl) :
    PE X (.Call (.Name x p) (e :: es) [] pos) (tE CV W (eCall F id n ca)) := by
  refine pe_mono (pe_callS Fo hr hg hm hk hb (passAt tk) ha hdb he hpl) fun σ H Q ⟨l, h, m, g, s, lr, p⟩ => ?_
  refine ⟨l, h, m, g, s, lr, PostE.mono (PostE.bind p) fun g1 m1 h1 H1 v e1 s1 p1 xs rx => ?_⟩
  obtain ⟨hn, q⟩ := arK_of (P := fun r => PostE CV W σ g1 m1 H1 r fun g' m' _ H' v => ∀ x, R g' m' H' v x → Q x H') (fun z => z) n v xs rx p1
  refine ⟨hn, v, h1, m1, g1, s1, rx, ?_⟩
  cases z : F id v h1 m1 with
  | ok => rw [z] at q; exact q
  | exc => rw [z] at q; exact q
  | bad => rw [z] at q; exact q
end
section
variable {P : Program} {w : World} {K : PySem.W.Frag} {mg : Str → Option Value} {base : Heap}
theorem ok_def {CV : Nat → Value} {x qual : Str} {st : Stmt} {f : Addr} {fd : FuncData} {N ps : List Str} {k id : Nat} {F : Fns} {cb : CS} (Fu : Fun K x qual st f fd) (Sc : FnScope N ps (defScope st)) (hF : F id = mkFn (N.length - ps.length) cb)
    (body : ∀ (cdv : Value) (A : Around) (outer : List Env) (s : Shared) (H : Hp) (E : XK), Room k (A.deeper (PyProof.Rows.envOfC qual (defScope st) s.heap.objs.size f cdv)) →
      PSs (cxOf (L2.CX P w) P w K mg base N qual (defScope st) f cdv A outer s H E) (defBody st) (tS CV (fun c d _ H => E c d H) cb)) : FnOk P w K mg base (L2.CX P w) (k + 1) f fd ps (spF CV F id ps.length) := by
  refine Fu.okX Sc (fun vs H Q E h => h.1) (fun cdv A outer s H vs Q E hr h => ⟨_, body cdv A outer s H E hr, ?_⟩)
  obtain ⟨hn, xs, h, m, g, sg, rl, p⟩ := h
  rw [hF] at p
  obtain ⟨l, el, lr⟩ := toLL_eq (α := RE) (N.length - ps.length) xs vs rl fun l => ofS (cb l h m)
  have p' : PostE CV (fun c d _ H => E c d H) [] g m H (toLL (pads (N.length - ps.length)) xs fun l => ofS (cb l h m)) _ := p
  rw [el] at p'
  refine ⟨l, h, m, g, sg, ?_, ?_⟩
  · show LR g m H l (vs.map some ++ List.replicate (N.length - vs.length) none)
    rw [hn]; exact lr
  · cases z : cb l h m with
    | nx l' h' m' => rw [z] at p'; exact fun g' H' σ' e s' lr' => p' g' H' e s' .non rfl
    | ret v h' m' => rw [z] at p'; exact fun g' H' x e s' rx => p' g' H' e s' x rx
    | exc c l' h' m' => rw [z] at p'; exact fun g' H' σ' e s' lr' => p' g' H' e s'
    | brk => rw [z] at p'; exact p'.elim
    | cnt => rw [z] at p'; exact p'.elim
    | bad => rw [z] at p'; exact p'.elim
/-- no call is left -/
theorem ok_zero {CV : Nat → Value} {f : Addr} {fd : FuncData} {ps : List Str} {id n : Nat} {F : Fns} (hF : ∀ xs h m, F id xs h m = .bad) : FnOk P w K mg base (L2.CX P w) 0 f fd ps (spF CV F id n) := by
  have no : ∀ vs H Q E, ¬ spF CV F id n vs H Q E := fun vs H Q E ⟨_, xs, h, m, g, _, _, p⟩ => by rw [hF] at p; exact p
  exact ⟨fun vs H Q E h => absurd h (no vs H Q E), fun A outer s H args us vs Q E _ _ _ _ h => absurd h (no vs H Q E)⟩
end
end Rf

namespace Rf
open PySem L2
/-! ### an object that no value reaches changes -/
section
variable {g g' : Gm} {m m' : Nat} {H H' : Hp} {h h' : Tr} {v w : EV} {x y : V} {xs : List V} {p : Addr} {o : HO}
theorem RR.upd (hp : g.M p) : ∀ v : EV, (∀ x, R g m H v x → R g m (upd H p o) v x) ∧ (∀ xs, RL g m H v xs → RL g m (upd H p o) v xs)
  | .non => ⟨fun _ h => h, fun _ h => h⟩
  | .bl _ => ⟨fun _ h => h, fun _ h => h⟩
  | .int _ => ⟨fun _ h => h, fun _ h => h⟩
  | .str _ => ⟨fun _ h => h, fun _ h => h⟩
  | .nil => ⟨fun _ h => h, fun _ h => h⟩
  | .cons x xs => ⟨fun w h => by
    have ixs := RR.upd hp xs
    have off : ∀ {b : Addr} {u : HO}, H b = some u → ¬ g.M b → (L2.upd H p o) b = some u := fun hb nb => by rw [upd_ne (fun z => nb (by rw [z]; exact hp))]; exact hb
    match x, h with
    | .ch C, h =>
      obtain ⟨a, t, vs, e1, h1, n1, h2, n2, h3⟩ := h
      exact ⟨a, t, vs, e1, off h1 n1, n1, off h2 n2, n2, ixs.2 _ h3⟩
    | .lst (.ch C), h =>
      obtain ⟨a, t, y, e1, h1, n1, h2, n2, h3⟩ := h
      exact ⟨a, t, y, e1, off h1 n1, n1, off h2 n2, n2, ixs.1 _ h3⟩, fun _ h => by
    obtain ⟨v, r, e1, h1, h2⟩ := h
    exact ⟨v, r, e1, (RR.upd hp x).1 _ h1, (RR.upd hp xs).2 _ h2⟩⟩
  | .tup xs => ⟨fun _ h => by
    obtain ⟨a, vs, e1, h1, h2, h3⟩ := h
    exact ⟨a, vs, e1, by rw [upd_ne (fun z => h2 (by rw [z]; exact hp))]; exact h1, h2, (RR.upd hp xs).2 _ h3⟩, fun _ h => h⟩
  | .lst xs => ⟨fun _ h => by
    obtain ⟨a, vs, e1, h1, h2, h3⟩ := h
    exact ⟨a, vs, e1, by rw [upd_ne (fun z => h2 (by rw [z]; exact hp))]; exact h1, h2, (RR.upd hp xs).2 _ h3⟩, fun _ h => h⟩
  | .ref a => ⟨fun _ h => h, fun _ h => h⟩
  | .ch _ => ⟨fun _ h => h, fun _ h => h⟩
theorem S.upd (s : S g m h H) (hp : g.M p) (hg : ¬ g.G p) : S g m h (upd H p o) :=
  ⟨s.inj, fun i hi => by
    obtain ⟨u, e, r⟩ := s.obj i hi
    refine ⟨u, e, ?_⟩
    cases u with
    | lst xs => obtain ⟨a, vs, q, rl⟩ := r; exact ⟨a, vs, by rw [upd_ne (fun z => hg (by rw [← z]; exact a))]; exact q, (RR.upd hp _).2 _ rl⟩
    | dct kvs => exact r.elim
    | dead => trivial, fun a z => by
    obtain ⟨u, q⟩ := s.mem a z
    by_cases e : a = p
    · subst e; exact ⟨o, upd_same⟩
    · exact ⟨u, by rw [upd_ne e]; exact q⟩⟩
theorem LR.upd {l σ} (r : LR g m H l σ) (hp : g.M p) : LR g m (upd H p o) l σ := ⟨r.len, fun i x q => let ⟨v, a, b⟩ := r.get i x q; ⟨v, a, (RR.upd hp x).1 _ b⟩⟩
end
/-! ### list comprehensions -/
abbrev CGE := EV → Tr → LL → (LL → RE) → RE
noncomputable def gNE (i : Nat) : CGE := fun v _ l k => lsetK v .bad l i k
noncomputable def bindN (r : RE) (k : EV → Tr → Nat → RE) : RE := RE.rec (motive := fun _ => RE) k (fun _ _ _ => .bad) .bad r
noncomputable def unK (r : RE) (l : LL) : Nat → RE := LL.rec (motive := fun _ => Nat → RE) (fun _ => .bad) (fun _ ih n => Nat.rec (motive := fun _ => RE) r (fun j _ => ih j) n) (fun _ _ ih n => Nat.rec (motive := fun _ => RE) .bad (fun j _ => ih j) n) l
noncomputable def unAll (l : LL) (r : RE) : List Nat → RE
  | [] => r
  | i :: is => unK (unAll l r is) l i
theorem unK_of {P : RE → Prop} (hbad : ¬ P .bad) {r : RE} : ∀ (l : LL) (n : Nat), P (unK r l n) → (LLs l)[n]? = some none ∧ P r
  | .nil, n, p => absurd p hbad
  | .un l, 0, p => ⟨rfl, p⟩
  | .un l, n + 1, p => unK_of hbad l n p
  | .as x l, 0, p => absurd p hbad
  | .as x l, n + 1, p => unK_of hbad l n p
theorem unAll_of {P : RE → Prop} (hbad : ¬ P .bad) {r : RE} {l : LL} : ∀ (is : List Nat), P (unAll l r is) → (∀ i ∈ is, (LLs l)[i]? = some none) ∧ P r
  | [], p => ⟨fun _ z => (nomatch z), p⟩
  | i :: is, p => by
    obtain ⟨a, b⟩ := unK_of hbad l i p
    obtain ⟨c, d⟩ := unAll_of hbad is b
    exact ⟨fun j hj => by
      rcases List.mem_cons.mp hj with e | e
      · subst e; exact a
      · exact c j e, d⟩
theorem LR.wipe {g m H l σ} {is : List Nat} (r : LR g m H l σ) (h : ∀ i ∈ is, (LLs l)[i]? = some none) : LR g m H l (L2.wipe σ is) :=
  ⟨by rw [wipe_length]; exact r.len, fun i x q => by
    obtain ⟨v, a, b⟩ := r.get i x q
    refine ⟨v, ?_, b⟩
    rw [wipe_out (fun hi => by have z := h i hi; rw [q] at z; cases z)]
    exact a⟩
theorem wipe_wipe {σ : L2.St} : ∀ (is : List Nat) (js : List Nat), (∀ i ∈ js, i ∈ is) → ∀ (k : Nat), (L2.wipe (L2.wipe σ js) is)[k]? = (L2.wipe σ is)[k]? := fun is js hs k => by
  by_cases hk : k ∈ is
  · have z : ∀ τ : L2.St, τ.length = σ.length → (L2.wipe τ is)[k]? = if k < σ.length then some none else none := fun τ hτ => by
      cases q : (L2.wipe τ is)[k]? with
      | none =>
        have := List.getElem?_eq_none_iff.mp q
        rw [wipe_length, hτ] at this
        rw [if_neg (by omega)]
      | some u =>
        have hl := (List.getElem?_eq_some_iff.mp q).1
        rw [wipe_length, hτ] at hl
        rw [if_pos hl]
        cases u with
        | none => rfl
        | some v => exact absurd hk (wipe_some q).2
    rw [z _ (wipe_length _ _), z _ rfl]
  · rw [wipe_out hk, wipe_out hk, wipe_out (fun z => hk (hs k z))]
theorem wipe_set {σ : L2.St} {is : List Nat} {j : Nat} {x : Option V} (hj : j ∈ is) : L2.wipe (σ.set j x) is = L2.wipe σ is := by
  refine List.ext_getElem? fun k => ?_
  by_cases hk : k ∈ is
  · have z : ∀ τ : L2.St, τ.length = σ.length → (L2.wipe τ is)[k]? = if k < σ.length then some none else none := fun τ hτ => by
      cases q : (L2.wipe τ is)[k]? with
      | none =>
        have := List.getElem?_eq_none_iff.mp q
        rw [wipe_length, hτ] at this
        rw [if_neg (by omega)]
      | some u =>
        have hl := (List.getElem?_eq_some_iff.mp q).1
        rw [wipe_length, hτ] at hl
        rw [if_pos hl]
        cases u with
        | none => rfl
        | some v => exact absurd hk (wipe_some q).2
    rw [z _ (by rw [List.length_set]), z _ rfl]
  · rw [wipe_out hk, wipe_out hk, List.getElem?_set_ne (fun e => hk (by rw [← e]; exact hj))]
section
variable {CV : Nat → Value} {W : WX} {σ : L2.St} {g g' : Gm} {m m' : Nat} {H H' : Hp} {h h' : Tr} {r : RE} {K K' : KE} {l : LL} {D : Ends}
theorem PostE.bindN {W0 : WX} {σ0 : L2.St} {g1 : Gm} {m1 : Nat} {H1 : Hp} {k : EV → Tr → Nat → RE} (p : PostE CV W σ g m H (Rf.bindN r k) K) : PostE CV W0 σ0 g1 m1 H1 r fun g' m' h' H' v => PostE CV W σ g m H (k v h' m') K := by
  cases r with
  | ok v h1 m1 => exact fun g' H' e s => p
  | exc c h1 m1 => exact p.elim
  | bad => exact p.elim
end
/-- where an exception can't go -/
abbrev W0 : WX := fun _ _ _ _ => False
def tGE (CV : Nat → Value) (W : WX) (own : List Nat) (cg : CGE) (gt : TG) : Prop := ∀ (g0 : Gm) (m0 : Nat) (H0 : Hp) (τ : L2.St) (K : KE) (g : Gm) (m : Nat) (h : Tr) (H : Hp) (l : LL) (σ : L2.St) (v : EV) (x : V) (k : LL → RE) (Q : L2.St → Hp → Prop), S g m h H → LR g m H l σ → R g m H v x →
  PostE CV W τ g0 m0 H0 (cg v h l k) K → (∀ l' σ', LR g m H l' σ' → L2.wipe σ' own = L2.wipe σ own → PostE CV W τ g0 m0 H0 (k l') K → Q σ' H) → gt x σ H Q
theorem tGE_name {CV W} {own : List Nat} {i : Nat} (hi : i ∈ own) : tGE CV W own (gNE i) (gName i) := fun g0 m0 H0 τ K g m h H l σ v x k Q s lr rx p q => by
  have p' : PostE CV W τ g0 m0 H0 (lsetK v RE.bad l i k) K := p
  rcases lsetK_eq v RE.bad l i k with ⟨l', el, hn, e⟩ | e
  · rw [e] at p'
    exact q l' _ (lr.set el hn rx) (wipe_set hi) p'
  · rw [e] at p'; exact p'.elim
noncomputable def lcA (cg : CGE) (cond elt : CE) (xs : EV) : LL → Tr → Nat → EV → RE := EV.rec (motive := fun _ => LL → Tr → Nat → EV → RE) (fun _ _ _ _ => .bad) (fun _ _ _ _ _ => .bad) (fun _ _ _ _ _ => .bad) (fun _ _ _ _ _ _ => .bad)
  (fun _ h m acc => revK acc .nil fun z => .ok (.lst z) h m)
  (fun x _ _ ih l h m acc => cg x h l fun l' => bindN (cond l' h m) fun t h m => onBl .bad (fun b => Bool.rec (motive := fun _ => RE) (ih l h m acc) (bindN (elt l' h m) fun v h m => ih l h m (.cons v acc)) b) t)
  (fun _ _ _ _ _ _ => .bad) (fun _ _ _ _ _ _ => .bad) (fun _ _ _ _ _ => .bad) (fun _ _ _ _ _ => .bad) xs
/-- the comprehension's state at turn i -/
def AtL (CV : Nat → Value) (W : WX) (K : KE) (F : Gm → Hp → Prop) (g0 : Gm) (m0 : Nat) (H0 : Hp) (τ : L2.St) (cg : CGE) (cond elt : CE) (own : List Nat) (D : Addr) (vs : List V) (i : Nat) (H : Hp) : Prop :=
  ∃ l h m g e acc av, Ext g0 m0 H0 g m H ∧ S g m h H ∧ LR g m H l (L2.wipe τ own) ∧ F g H ∧ RL g m H e (vs.drop i) ∧ RL g m H acc av.reverse ∧ g.M D ∧ ¬ g.G D ∧ H D = some (.lst av) ∧ av.length ≤ i ∧ PostE CV W τ g0 m0 H0 (lcA cg cond elt e l h m acc) K
def Stays2 (F : Gm → Hp → Prop) : Prop := ∀ g H p o, g.M p → F g H → F g (upd H p o)
theorem stays2_yes : Stays2 fun _ _ => True := fun _ _ _ _ _ _ => trivial
theorem stays2_at (a : Addr) (o : HO) : Stays2 fun g H => H a = some o ∧ ¬ g.M a := fun g H p o hp ⟨h1, h2⟩ => ⟨by rw [upd_ne (fun z => h2 (by rw [z]; exact hp))]; exact h1, h2⟩
section
variable {X : Cx} {CV : Nat → Value} {W : WX}
theorem AtL.turn {K : KE} {F : Gm → Hp → Prop} {g0 : Gm} {m0 : Nat} {H0 : Hp} {τ : L2.St} {cg : CGE} {gt : TG} {cond elt : CE} {own : List Nat} {D : Addr} {vs : List V} (hF : Stays F) (hF2 : Stays2 F) (hD : H0 D = none) (hcg : tGE CV W own cg gt) (hlen : vs.length ≤ 16000000)
    {i : Nat} {x : V} {H : Hp} (hx : vs[i]? = some x) (w : AtL CV W K F g0 m0 H0 τ cg cond elt own D vs i H) :
    gt x (L2.wipe τ own) H fun σ2 H2 => L2.wipe σ2 own = L2.wipe τ own ∧ tT CV W0 cond σ2 H2 fun b H3 =>
      if b = true then tE CV W0 elt σ2 H3 fun y H4 => ∃ acc, H4 D = some (.lst acc) ∧ acc.length < sizeLine ∧ AtL CV W K F g0 m0 H0 τ cg cond elt own D vs (i + 1) (upd H4 D (.lst (acc ++ [y]))) else AtL CV W K F g0 m0 H0 τ cg cond elt own D vs (i + 1) H3 := by
  obtain ⟨l, h, m, g, e, acc, av, ex, s, lr, hf, rl, ra, dM, dG, dH, la, p⟩ := w
  have hi := (List.getElem?_eq_some_iff.mp hx).1
  have hd : vs.drop i = x :: vs.drop (i + 1) := by
    obtain ⟨h1, h2⟩ := List.getElem?_eq_some_iff.mp hx
    rw [← h2]; exact List.drop_eq_getElem_cons h1
  rw [hd] at rl
  obtain ⟨v, r, rfl, rx, rr⟩ := rl.cons_of
  refine hcg g0 m0 H0 τ K g m h H l (L2.wipe τ own) v x _ _ s lr rx p fun l' σ' lr' hw p' => ⟨by rw [hw]; exact List.ext_getElem? fun k => wipe_wipe own own (fun _ z => z) k, ?_⟩
  refine ⟨l', h, m, g, s, lr', PostE.mono (PostE.bindN p') fun g3 m3 h3 H3 t e3 s3 p3 => ?_⟩
  obtain ⟨b, et, _, q⟩ := onBl_of (g := g0) (m := m0) (H := H0) (x := .bl (match t with | .bl b => b | _ => false)) (by cases t <;> first | rfl | exact (show False from p3).elim) p3
  refine ⟨b, et, ?_⟩
  have k3 := e3.keepM D dM dG
  cases b with
  | false =>
    refine iteF ?_
    exact ⟨l, h3, m3, g3, r, acc, av, ex.trans e3, s3, lr.mono e3, hF _ _ _ _ _ _ e3 hf, RL.mono e3 rr, RL.mono e3 ra, k3.1, k3.2, e3.keep _ _ dH dG, by omega, q⟩
  | true =>
    refine iteT ?_
    refine ⟨l', h3, m3, g3, s3, lr'.mono e3, PostE.mono (PostE.bindN q) fun g4 m4 h4 H4 u e4 s4 p4 y ry => ?_⟩
    have k4 := e4.keepM D k3.1 k3.2
    have e34 := e3.trans e4
    have d4 : H4 D = some (.lst av) := e34.keep _ _ dH dG
    refine ⟨av, d4, by have := small16 hlen; omega, ?_⟩
    refine ⟨l, h4, m4, g4, r, .cons u acc, av ++ [y], ?_, s4.upd k4.1 k4.2, (lr.mono e34).upd k4.1, hF2 _ _ _ _ k4.1 (hF _ _ _ _ _ _ e34 hf), (RR.upd k4.1 _).2 _ (RL.mono e34 rr), ?_, k4.1, k4.2, upd_same, by rw [List.length_append]; show av.length + 1 ≤ i + 1; omega, p4⟩
    · have f := ex.trans e34
      exact ⟨f.le, f.eq, f.newM, f.newG, fun a o ha hn => by rw [upd_ne (fun z => by rw [z, hD] at ha; cases ha)]; exact f.keep a o ha hn, f.keepM⟩
    · rw [List.reverse_append]
      exact ⟨y, _, rfl, (RR.upd k4.1 _).1 _ ry, (RR.upd k4.1 _).2 _ (RL.mono e34 ra)⟩
theorem AtL.done {K : KE} {F : Gm → Hp → Prop} {g0 : Gm} {m0 : Nat} {h0 : Tr} {H0 : Hp} {τ : L2.St} {cg : CGE} {cond elt : CE} {own : List Nat} {D : Addr} {vs : List V} {H : Hp} (s0 : S g0 m0 h0 H0) (hD : H0 D = none) (w : AtL CV W K F g0 m0 H0 τ cg cond elt own D vs vs.length H) :
    ∃ g m h v, K g m h H v ∧ R g m H v (.ref D) := by
  obtain ⟨l, h, m, g, e, acc, av, ex, s, lr, hf, rl, ra, dM, dG, dH, la, p⟩ := w
  rw [List.drop_length] at rl
  have e1 := rl.nil_of
  subst e1
  have p' : PostE CV W τ g0 m0 H0 (revK acc .nil fun z => .ok (.lst z) h m) K := p
  obtain ⟨z, ez, rz⟩ := revK_RL (α := RE) acc av.reverse .nil [] ra (show RL g m H .nil [] from rfl) fun z => .ok (.lst z) h m
  rw [ez] at p'
  rw [List.reverse_reverse, List.append_nil] at rz
  let g' : Gm := ⟨g.ρ, fun a => g.M a ∧ a ≠ D, g.G, fun a q => ⟨g.sub a q, fun z => dG (by rw [← z]; exact q)⟩⟩
  have weak : ∀ v : EV, (∀ x, R g m H v x → R g' m H v x) ∧ (∀ xs, RL g m H v xs → RL g' m H v xs) := by
    intro v
    induction v with
    | non => exact ⟨fun _ h => h, fun _ h => h⟩
    | bl => exact ⟨fun _ h => h, fun _ h => h⟩
    | int => exact ⟨fun _ h => h, fun _ h => h⟩
    | str => exact ⟨fun _ h => h, fun _ h => h⟩
    | nil => exact ⟨fun _ h => h, fun _ h => h⟩
    | cons a b ia ib => exact ⟨fun w q => by
        match a, q with
        | .ch C, q =>
          obtain ⟨a, t, vs, e1, h1, n1, h2, n2, h3⟩ := q
          exact ⟨a, t, vs, e1, h1, fun z => n1 z.1, h2, fun z => n2 z.1, ib.2 _ h3⟩
        | .lst (.ch C), q =>
          obtain ⟨a, t, y, e1, h1, n1, h2, n2, h3⟩ := q
          exact ⟨a, t, y, e1, h1, fun z => n1 z.1, h2, fun z => n2 z.1, ib.1 _ h3⟩, fun _ ⟨v, r, e1, h1, h2⟩ => ⟨v, r, e1, ia.1 _ h1, ib.2 _ h2⟩⟩
    | tup a ia => exact ⟨fun _ ⟨a, vs, e1, h1, h2, h3⟩ => ⟨a, vs, e1, h1, fun z => h2 z.1, ia.2 _ h3⟩, fun _ h => h⟩
    | lst a ia => exact ⟨fun _ ⟨a, vs, e1, h1, h2, h3⟩ => ⟨a, vs, e1, h1, fun z => h2 z.1, ia.2 _ h3⟩, fun _ h => h⟩
    | ref => exact ⟨fun _ h => h, fun _ h => h⟩
    | ch => exact ⟨fun _ h => h, fun _ h => h⟩
  refine ⟨g', m, h, .lst z, p' g' H ⟨ex.le, ex.eq, fun a q => ex.newM a q.1, ex.newG, ex.keep, fun a h1 h2 => ⟨⟨(ex.keepM a h1 h2).1, fun q => by
    obtain ⟨o, ho⟩ := s0.mem a h1
    rw [q, hD] at ho; cases ho⟩, (ex.keepM a h1 h2).2⟩⟩ ⟨s.inj, fun i hi => ?_, fun a q => s.mem a q.1⟩, D, av, rfl, dH, fun q => q.2 rfl, (weak z).2 _ rz⟩
  obtain ⟨u, eu, ru⟩ := s.obj i hi
  refine ⟨u, eu, ?_⟩
  cases u with
  | lst xs => obtain ⟨a, vs, q, rl⟩ := ru; exact ⟨a, vs, q, (weak _).2 _ rl⟩
  | dct kvs => exact ru.elim
  | dead => trivial
end
/-- one more address that no value reaches -/
def Gm.more (g : Gm) (D : Addr) : Gm := ⟨g.ρ, fun a => g.M a ∨ a = D, g.G, fun a q => .inl (g.sub a q)⟩
theorem Gm.more_ext {g : Gm} {m : Nat} {h : Tr} {H : Hp} {D : Addr} {o : HO} (s : S g m h H) (hD : H D = none) : Ext g m H (g.more D) m (upd H D o) :=
  ⟨Nat.le_refl _, fun _ _ => rfl, fun a q => q.elim .inl fun e => .inr (by rw [e]; exact hD), fun _ q => .inl q, fun a o ha _ => by rw [upd_ne (ne_of_none ha hD)]; exact ha, fun a h1 h2 => ⟨.inl h1, h2⟩⟩
theorem Gm.more_S {g : Gm} {m : Nat} {h : Tr} {H : Hp} {D : Addr} {o : HO} (s : S g m h H) (hD : H D = none) : S (g.more D) m h (upd H D o) :=
  ⟨s.inj, fun i hi => by
    obtain ⟨u, e, r⟩ := s.obj i hi
    refine ⟨u, e, ?_⟩
    cases u with
    | lst xs => obtain ⟨a, vs, q, rl⟩ := r; exact ⟨a, vs, (upd_ne (ne_of_none q hD)).trans q, RL.mono (Gm.more_ext s hD) rl⟩
    | dct kvs => exact r.elim
    | dead => trivial, fun a q => by
    rcases q with q | q
    · obtain ⟨u, hu⟩ := s.mem a q
      exact ⟨u, by rw [upd_ne (ne_of_none hu hD)]; exact hu⟩
    · exact ⟨o, by rw [q]; exact upd_same⟩⟩
theorem AtL.start {CV : Nat → Value} {W : WX} {K : KE} {F : Gm → Hp → Prop} {g : Gm} {m : Nat} {h : Tr} {H : Hp} {τ : L2.St} {cg : CGE} {cond elt : CE} {own : List Nat} {D : Addr} {vs : List V} {l : LL} {e : EV} (hF : Stays F) (s : S g m h H) (hD : H D = none) (lr : LR g m H l (L2.wipe τ own)) (f : F g H) (rl : RL g m H e vs)
    (p : PostE CV W τ g m H (lcA cg cond elt e l h m .nil) K) : AtL CV W K F g m H τ cg cond elt own D vs 0 (upd H D (.lst [])) :=
  have ex := Gm.more_ext (o := .lst []) s hD
  ⟨l, h, m, g.more D, e, .nil, [], ex, Gm.more_S s hD, lr.mono ex, hF _ _ _ _ _ _ ex f, RL.mono ex rl, rfl, .inr rfl, fun q => s.free hD (g.sub D q), upd_same, Nat.le_refl _, p⟩
noncomputable def eLc (own : List Nat) (cg : CGE) (it cond elt : CE) : CE := fun l h m => bindE (it l h m) fun v h m =>
  EV.rec (motive := fun _ => RE) .bad (fun _ => .bad) (fun _ => .bad) (fun _ _ => .bad) .bad (fun _ _ _ _ => .bad) (fun xs _ => unAll l (lenOk xs (lcA cg cond elt xs l h m .nil)) own) (fun xs _ => unAll l (lenOk xs (lcA cg cond elt xs l h m .nil)) own) (fun _ => .bad) (fun _ => .bad) v
section
variable {X : Cx} {CV : Nat → Value} {W : WX} {pos : Pos}
theorem de_lc {elt tg iter : Expr} {ifs : List Expr} {scope : Scope} {own : List (Str × Nat)} {gt : TG} {cg : CGE} {it ct ce : CE} (hc : X.calm = true) (hN : X.N.Nodup) (hi : PE X iter (tE CV W it)) (ok : BlkOk X.N X.env.scope scope own)
    (hg : ∀ (s : Shared) (H : Hp) (C : Addr) (cl : List (Str × Addr)) (fp : List Addr), PG (X.blk s H scope (compEnvC scope cl C X.env) fp) tg gt) (hcg : tGE CV W (own.map (·.2)) cg gt)
    (ht : ∀ (s : Shared) (H : Hp) (C : Addr) (cl : List (Str × Addr)) (fp : List Addr), PTs (X.blk s H scope (compEnvC scope cl C X.env) fp) ifs (tT CV W0 ct))
    (he : ∀ (s : Shared) (H : Hp) (C : Addr) (cl : List (Str × Addr)) (fp : List Addr), PE (X.blk s H scope (compEnvC scope cl C X.env) fp) elt (tE CV W0 ce)) (hs : ∀ x, foldedSetIterable iter X.env x = pure x := by intro _; rfl) :
    PE X (.ListComp elt [⟨tg, iter, ifs, 0⟩] scope pos) (tE CV W (eLc (own.map (·.2)) cg it ct ce)) := by
  refine pe_mono (pe_lc hc hN (pi_or (pi_list hi) (pi_tup hi)) ok hg ht he hs) fun σ H Q ⟨l, h, m, g, s, lr, p⟩ => ?_
  have p' := PostE.bind p
  cases z : it l h m with
  | bad => rw [z] at p'; exact p'.elim
  | exc c h1 m1 => exact .inl ⟨l, h, m, g, s, lr, by rw [z] at p' ⊢; exact p'⟩
  | ok v h1 m1 =>
    rw [z] at p'
    have go : ∀ (xs : EV) (g1 : Gm) (H1 : Hp) (a : Addr) (o : HO) (vs : List V), Ext g m H g1 m1 H1 → S g1 m1 h1 H1 → H1 a = some o → ¬ g1.M a → RL g1 m1 H1 xs vs → PostE CV W σ g1 m1 H1 (unAll l (lenOk xs (lcA cg ct ce xs l h1 m1 .nil)) (own.map (·.2))) (fun g' m' _ H' v => ∀ x, R g' m' H' v x → Q x H') →
        vs.length ≤ 16000000 ∧ ∀ D, H1 D = none → AtL CV W (fun g' m' _ H' v => ∀ x, R g' m' H' v x → Q x H') (fun g H => H a = some o ∧ ¬ g.M a) g1 m1 H1 σ cg ct ce (own.map (·.2)) D vs 0 (upd H1 D (.lst [])) := fun xs g1 H1 a o vs e1 s1 ha na rl q => by
      obtain ⟨hu, q⟩ := unAll_of (P := fun r => PostE CV W σ g1 m1 H1 r _) (fun z => z) _ q
      obtain ⟨hl, q⟩ := lenOk_of rl q
      exact ⟨hl, fun D hD => AtL.start (stays_at a o) s1 hD ((lr.mono e1).wipe hu) ⟨ha, na⟩ rl q⟩
    cases v with
    | lst xs =>
      refine .inl ⟨l, h, m, g, s, lr, ?_⟩
      rw [z]
      intro g1 H1 e1 s1 x ⟨a, vs, ex, ha, na, rl⟩
      obtain ⟨hl, st⟩ := go xs g1 H1 a _ vs e1 s1 ha na rl (p' g1 H1 e1 s1)
      refine ⟨a, ex, ⟨vs, SqL.of ha⟩, fun D hD => lc_list _ (st D hD) (fun i H _ w => ?_) (fun i x H hx w => AtL.turn (stays_at a _) (stays2_at a _) hD hcg hl hx w) fun H w => ?_⟩
      · obtain ⟨_, _, _, _, _, _, _, _, _, _, ⟨q, _⟩, _⟩ := w
        exact SqL.of q
      · obtain ⟨_, _, _, _, k, r⟩ := w.done s1 hD
        exact k _ r
    | tup xs =>
      refine .inr ⟨l, h, m, g, s, lr, ?_⟩
      rw [z]
      intro g1 H1 e1 s1 x ⟨a, vs, ex, ha, na, rl⟩
      obtain ⟨hl, st⟩ := go xs g1 H1 a _ vs e1 s1 ha na rl (p' g1 H1 e1 s1)
      refine ⟨a, ex, ⟨vs, SqT.of ha⟩, fun D hD => lc_tup _ (st D hD) (fun i H _ w => ?_) (fun i x H hx w => AtL.turn (stays_at a _) (stays2_at a _) hD hcg hl hx w) fun H w => ?_⟩
      · obtain ⟨_, _, _, _, _, _, _, _, _, _, ⟨q, _⟩, _⟩ := w
        exact SqT.of q
      · obtain ⟨_, _, _, _, k, r⟩ := w.done s1 hD
        exact k _ r
    | non => exact .inl ⟨l, h, m, g, s, lr, by rw [z]; exact fun g1 H1 e1 s1 => (p' g1 H1 e1 s1).elim⟩
    | bl => exact .inl ⟨l, h, m, g, s, lr, by rw [z]; exact fun g1 H1 e1 s1 => (p' g1 H1 e1 s1).elim⟩
    | int => exact .inl ⟨l, h, m, g, s, lr, by rw [z]; exact fun g1 H1 e1 s1 => (p' g1 H1 e1 s1).elim⟩
    | str => exact .inl ⟨l, h, m, g, s, lr, by rw [z]; exact fun g1 H1 e1 s1 => (p' g1 H1 e1 s1).elim⟩
    | nil => exact .inl ⟨l, h, m, g, s, lr, by rw [z]; exact fun g1 H1 e1 s1 => (p' g1 H1 e1 s1).elim⟩
    | cons => exact .inl ⟨l, h, m, g, s, lr, by rw [z]; exact fun g1 H1 e1 s1 => (p' g1 H1 e1 s1).elim⟩
    | ref => exact .inl ⟨l, h, m, g, s, lr, by rw [z]; exact fun g1 H1 e1 s1 => (p' g1 H1 e1 s1).elim⟩
    | ch => exact .inl ⟨l, h, m, g, s, lr, by rw [z]; exact fun g1 H1 e1 s1 => (p' g1 H1 e1 s1).elim⟩
theorem dts_nil : PTs X [] (tT CV W0 (eCon (.bl true))) := ⟨fun pins s σ H Q I ⟨l, h, m, g, sg, lr, p⟩ => pts_nil.run pins s σ H Q I (by obtain ⟨b, e, q⟩ := post_ok sg p; cases e; exact q)⟩
theorem dts_one {ec : Expr} {c : CE} (h : PT X ec (tT CV W0 c)) : PTs X [ec] (tT CV W0 c) := pts_one h
end
end Rf

namespace Rf
open PySem L2
/-! ### numbers -/
noncomputable def ltI (i j : Int) : Bool := Int.rec (motive := fun _ => Bool) (fun a => Int.rec (motive := fun _ => Bool) (fun b => Nat.blt a b) (fun _ => false) j) (fun a => Int.rec (motive := fun _ => Bool) (fun _ => true) (fun b => Nat.blt b a) j) i
theorem ltI_eq (i j : Int) : ltI i j = decide (i < j) := by
  cases i with
  | ofNat a =>
    cases j with
    | ofNat b =>
      show Nat.blt a b = _
      rw [Bool.eq_iff_iff, Nat.blt_eq, decide_eq_true_iff]
      exact Int.ofNat_lt.symm
    | negSucc b => exact (decide_eq_false (by intro z; have z' : (a : Int) < Int.negSucc b := z; omega)).symm
  | negSucc a =>
    cases j with
    | ofNat b => exact (decide_eq_true (by show Int.negSucc a < (b : Int); omega)).symm
    | negSucc b =>
      show Nat.blt b a = _
      rw [Bool.eq_iff_iff, Nat.blt_eq, decide_eq_true_iff]
      omega
noncomputable def okB (b : Bool) (h : Tr) (m : Nat) : RE := Bool.rec (motive := fun _ => RE) (.ok (.bl false) h m) (.ok (.bl true) h m) b
theorem okB_eq (b : Bool) (h : Tr) (m : Nat) : okB b h m = .ok (.bl b) h m := by cases b <;> rfl
noncomputable def fI (f : Int → Int → Int) : EV → EV → Tr → Nat → RE := fun v w h m => onInt .bad (fun i => onInt .bad (fun j => okInt (f i j) h m) w) v
noncomputable def fB (f : Int → Int → Bool) : EV → EV → Tr → Nat → RE := fun v w h m => onInt .bad (fun i => onInt .bad (fun j => okB (f i j) h m) w) v
section
variable {X : Cx} {CV : Nat → Value} {W : WX}
theorem o_int (f : Int → Int → Int) : Op2 CV W (fI f) (rI0 fun i j => .int (f i j)) := fun σ g m h H v w x y Q s rx ry p => by
  obtain ⟨i, rfl, rfl, p⟩ := onInt_of rx p
  obtain ⟨j, rfl, rfl, p⟩ := onInt_of ry p
  rw [okInt_eq] at p
  exact ⟨i, j, rfl, rfl, post_ok s p _ rfl⟩
theorem o_bool {f f' : Int → Int → Bool} (e : ∀ i j, f i j = f' i j) : Op2 CV W (fB f) (rI0 fun i j => .bl (f' i j)) := fun σ g m h H v w x y Q s rx ry p => by
  obtain ⟨i, rfl, rfl, p⟩ := onInt_of rx p
  obtain ⟨j, rfl, rfl, p⟩ := onInt_of ry p
  rw [okB_eq] at p
  exact ⟨i, j, rfl, rfl, post_ok s p _ (by rw [e]; rfl)⟩
/-- either of two -/
theorem o_or {f : EV → EV → Tr → Nat → RE} {r r' : R2} (h : ∀ σ g m h H v w x y Q, S g m h H → R g m H v x → R g m H w y → PostE CV W σ g m H (f v w h m) (fun g' m' _ H' z => ∀ u, R g' m' H' z u → Q u H') → r x y H Q ∨ r' x y H Q) : Op2 CV W f (fun x y H Q => r x y H Q ∨ r' x y H Q) := h
noncomputable abbrev iLt : EV → EV → Tr → Nat → RE := fB ltI
noncomputable abbrev iGt : EV → EV → Tr → Nat → RE := fB fun i j => ltI j i
noncomputable abbrev iLe : EV → EV → Tr → Nat → RE := fB fun i j => !ltI j i
noncomputable abbrev iGe : EV → EV → Tr → Nat → RE := fB fun i j => !ltI i j
theorem o_lt : Op2 CV W iLt (rI0 fun i j => .bl (decide (i < j))) := o_bool ltI_eq
theorem o_gt : Op2 CV W iGt (rI0 fun i j => .bl (decide (j < i))) := o_bool fun i j => ltI_eq j i
theorem o_le : Op2 CV W iLe (rI0 fun i j => .bl (decide (i ≤ j))) := o_bool fun i j => by
  rw [ltI_eq]
  by_cases h : i ≤ j
  · rw [decide_eq_true h, decide_eq_false (by omega)]; rfl
  · rw [decide_eq_false h, decide_eq_true (by omega)]; rfl
theorem o_ge : Op2 CV W iGe (rI0 fun i j => .bl (decide (j ≤ i))) := o_bool fun i j => by
  rw [ltI_eq]
  by_cases h : j ≤ i
  · rw [decide_eq_true h, decide_eq_false (by omega)]; rfl
  · rw [decide_eq_false h, decide_eq_true (by omega)]; rfl
end
/-! ### data -/
def Dt : EV → Option PyData × Option (List PyData)
  | .non => (some .none, none)
  | .bl b => (some (.bool b), none)
  | .int i => (some (.int i), none)
  | .str s => ((codes s).map fun l => .str ⟨l.toArray⟩, none)
  | .nil => (none, some [])
  | .cons x xs => (none, match (Dt x).1, (Dt xs).2 with | some d, some ds => some (d :: ds) | _, _ => none)
  | .tup xs => ((Dt xs).2.map .tuple, none)
  | .lst xs => ((Dt xs).2.map .list, none)
  | .ref _ => (none, none)
  | .ch _ => (none, none)
theorem Dt_ok {K : PySem.W.Frag} {g : Gm} {m : Nat} {H : Hp} : ∀ v : EV, (∀ x d, R g m H v x → (Dt v).1 = some d → Dp K H x d) ∧ (∀ xs ds, RL g m H v xs → (Dt v).2 = some ds → DpAll K H xs ds)
  | .non => ⟨fun x d r e => by cases (show x = .non from r); cases e; exact .non, fun _ _ _ e => (nomatch e)⟩
  | .bl b => ⟨fun x d r e => by cases (show x = .bl b from r); cases e; exact .bl b, fun _ _ _ e => (nomatch e)⟩
  | .int i => ⟨fun x d r e => by cases (show x = .int i from r); cases e; exact .int i, fun _ _ _ e => (nomatch e)⟩
  | .str s => ⟨fun x d r e => by
    obtain ⟨l, hl, rfl⟩ := r
    have e' : (codes s).map (fun l => PyData.str ⟨l.toArray⟩) = some d := e
    rw [hl] at e'
    cases e'
    exact .str _, fun _ _ _ e => (nomatch e)⟩
  | .nil => ⟨fun _ _ r => r.elim, fun xs ds r e => by cases (show xs = [] from r); cases e; exact .nil⟩
  | .cons x xs => ⟨fun _ _ _ e => (nomatch e), fun ys ds r e => by
    obtain ⟨v, t, rfl, h1, h2⟩ := r
    have e' : (match (Dt x).1, (Dt xs).2 with | some d, some ds => some (d :: ds) | _, _ => none) = some ds := e
    split at e'
    · rename_i d ds' q1 q2
      cases e'
      exact .cons ((Dt_ok x).1 _ _ h1 q1) ((Dt_ok xs).2 _ _ h2 q2)
    · cases e'⟩
  | .tup xs => ⟨fun x d r e => by
    obtain ⟨a, vs, rfl, h1, _, h2⟩ := r
    have e' : (Dt xs).2.map PyData.tuple = some d := e
    cases q : (Dt xs).2 with
    | none => rw [q] at e'; cases e'
    | some ds => rw [q] at e'; cases e'; exact .tup (SqT.of h1) ((Dt_ok xs).2 _ _ h2 q), fun _ _ _ e => (nomatch e)⟩
  | .lst xs => ⟨fun x d r e => by
    obtain ⟨a, vs, rfl, h1, _, h2⟩ := r
    have e' : (Dt xs).2.map PyData.list = some d := e
    cases q : (Dt xs).2 with
    | none => rw [q] at e'; cases e'
    | some ds => rw [q] at e'; cases e'; exact .lst (SqL.of h1) ((Dt_ok xs).2 _ _ h2 q), fun _ _ _ e => (nomatch e)⟩
  | .ref _ => ⟨fun _ _ _ e => (nomatch e), fun _ _ r => r.elim⟩
  | .ch _ => ⟨fun _ _ r => r.elim, fun _ _ r => r.elim⟩
/-- data at most n deep -/
noncomputable def chk (x : EV) : Nat → Bool := EV.rec (motive := fun _ => Nat → Bool) (fun _ => true) (fun _ _ => true) (fun _ _ => true) (fun _ _ _ => true) (fun _ => true)
  (fun x _ i1 i2 n => Bool.rec (motive := fun _ => Bool) false (i2 n) (i1 n)) (fun _ ih n => Nat.rec (motive := fun _ => Bool) false (fun k _ => ih k) n) (fun _ ih n => Nat.rec (motive := fun _ => Bool) false (fun k _ => ih k) n) (fun _ _ => false) (fun _ _ => false) x
def eqS : EV → EV → Bool
  | .nil, .nil => true
  | .cons (.ch a) x, .cons (.ch b) y => Nat.beq a b && eqS x y
  | _, _ => false
noncomputable def andB (a b : Bool) : Bool := Bool.rec (motive := fun _ => Bool) false b a
noncomputable def b2i' (b : Bool) : Int := Bool.rec (motive := fun _ => Int) 0 1 b
noncomputable def eqI (i j : Int) : Bool := Int.rec (motive := fun _ => Bool) (fun a => Int.rec (motive := fun _ => Bool) (fun b => Nat.beq a b) (fun _ => false) j) (fun a => Int.rec (motive := fun _ => Bool) (fun _ => false) (fun b => Nat.beq a b) j) i
theorem eqI_eq (i j : Int) : eqI i j = (i == j) := by
  cases i with
  | ofNat a =>
    cases j with
    | ofNat b =>
      show Nat.beq a b = _
      rw [Bool.eq_iff_iff, beq_iff_eq, Nat.beq_eq]
      constructor
      · intro e; rw [e]
      · intro e; injection e
    | negSucc b => exact (beq_eq_false_iff_ne.mpr (by intro z; cases z)).symm
  | negSucc a =>
    cases j with
    | ofNat b => exact (beq_eq_false_iff_ne.mpr (by intro z; cases z)).symm
    | negSucc b =>
      show Nat.beq a b = _
      rw [Bool.eq_iff_iff, beq_iff_eq, Nat.beq_eq]
      constructor
      · intro e; rw [e]
      · intro e; injection e
/-- == of data -/
noncomputable def eqE (x : EV) : EV → Bool := EV.rec (motive := fun _ => EV → Bool)
  (fun y => EV.rec (motive := fun _ => Bool) true (fun _ => false) (fun _ => false) (fun _ _ => false) false (fun _ _ _ _ => false) (fun _ _ => false) (fun _ _ => false) (fun _ => false) (fun _ => false) y)
  (fun a y => EV.rec (motive := fun _ => Bool) false (fun b => Bool.rec (motive := fun _ => Bool) (Bool.rec (motive := fun _ => Bool) true false b) b a) (fun j => eqI (b2i' a) j) (fun _ _ => false) false (fun _ _ _ _ => false) (fun _ _ => false) (fun _ _ => false) (fun _ => false) (fun _ => false) y)
  (fun i y => EV.rec (motive := fun _ => Bool) false (fun b => eqI i (b2i' b)) (fun j => eqI i j) (fun _ _ => false) false (fun _ _ _ _ => false) (fun _ _ => false) (fun _ _ => false) (fun _ => false) (fun _ => false) y)
  (fun _ ih y => EV.rec (motive := fun _ => Bool) false (fun _ => false) (fun _ => false) (fun t _ => ih t) false (fun _ _ _ _ => false) (fun _ _ => false) (fun _ _ => false) (fun _ => false) (fun _ => false) y)
  (fun y => EV.rec (motive := fun _ => Bool) false (fun _ => false) (fun _ => false) (fun _ _ => false) true (fun _ _ _ _ => false) (fun _ _ => false) (fun _ _ => false) (fun _ => false) (fun _ => false) y)
  (fun _ _ i1 i2 y => EV.rec (motive := fun _ => Bool) false (fun _ => false) (fun _ => false) (fun _ _ => false) false (fun b bs _ _ => andB (i1 b) (i2 bs)) (fun _ _ => false) (fun _ _ => false) (fun _ => false) (fun _ => false) y)
  (fun _ ih y => EV.rec (motive := fun _ => Bool) false (fun _ => false) (fun _ => false) (fun _ _ => false) false (fun _ _ _ _ => false) (fun t _ => ih t) (fun _ _ => false) (fun _ => false) (fun _ => false) y)
  (fun _ ih y => EV.rec (motive := fun _ => Bool) false (fun _ => false) (fun _ => false) (fun _ _ => false) false (fun _ _ _ _ => false) (fun _ _ => false) (fun t _ => ih t) (fun _ => false) (fun _ => false) y)
  (fun _ _ => false)
  (fun a y => EV.rec (motive := fun _ => Bool) false (fun _ => false) (fun _ => false) (fun _ _ => false) false (fun _ _ _ _ => false) (fun _ _ => false) (fun _ _ => false) (fun _ => false) (fun b => Nat.beq a b) y) x
theorem andB_eq (a b : Bool) : andB a b = (a && b) := by cases a <;> rfl
theorem eqE_codes : ∀ (x y : EV) (l k : List Nat), codes x = some l → codes y = some k → eqE x y = decide (l = k)
  | .nil, y, l, k, e1, e2 => by
    cases (show some [] = some l from e1)
    cases y with
    | nil => cases (show some [] = some k from e2); rfl
    | cons c t =>
      cases c with
      | ch c => obtain ⟨r, rfl, _, _⟩ := codes_cons e2; rfl
      | _ => (cases e2)
    | _ => (cases e2)
  | .cons (.ch a) t, y, l, k, e1, e2 => by
    obtain ⟨l1, rfl, q1, _⟩ := codes_cons e1
    cases y with
    | nil => cases (show some [] = some k from e2); rfl
    | cons c u =>
      cases c with
      | ch c =>
        obtain ⟨r, rfl, q, _⟩ := codes_cons e2
        show andB (Nat.beq a c) (eqE t u) = _
        rw [andB_eq, eqE_codes t u l1 r q1 q, Bool.eq_iff_iff, Bool.and_eq_true, decide_eq_true_iff, decide_eq_true_iff, Nat.beq_eq]
        constructor
        · rintro ⟨rfl, rfl⟩; rfl
        · intro e; injection e with e1 e2; exact ⟨e1, e2⟩
      | _ => (cases e2)
    | _ => (cases e2)
  | .cons .non _, _, _, _, e1, _ => by cases e1
  | .cons (.bl _) _, _, _, _, e1, _ => by cases e1
  | .cons (.int _) _, _, _, _, e1, _ => by cases e1
  | .cons (.str _) _, _, _, _, e1, _ => by cases e1
  | .cons .nil _, _, _, _, e1, _ => by cases e1
  | .cons (.cons _ _) _, _, _, _, e1, _ => by cases e1
  | .cons (.tup _) _, _, _, _, e1, _ => by cases e1
  | .cons (.lst _) _, _, _, _, e1, _ => by cases e1
  | .cons (.ref _) _, _, _, _, e1, _ => by cases e1
  | .non, _, _, _, e1, _ => by cases e1
  | .bl _, _, _, _, e1, _ => by cases e1
  | .int _, _, _, _, e1, _ => by cases e1
  | .str _, _, _, _, e1, _ => by cases e1
  | .tup _, _, _, _, e1, _ => by cases e1
  | .lst _, _, _, _, e1, _ => by cases e1
  | .ref _, _, _, _, e1, _ => by cases e1
  | .ch _, _, _, _, e1, _ => by cases e1
theorem codes_ok : ∀ (s : EV) (l : List Nat), codes s = some l → PyData.strOk ⟨l.toArray⟩ = true
  | .nil, l, e => by cases (show some [] = some l from e); simp [PyData.strOk]
  | .cons (.ch a) t, l, e => by
    obtain ⟨k, rfl, q, hc⟩ := codes_cons e
    have ih := codes_ok t k q
    unfold PyData.strOk at ih ⊢
    simp only [List.all_toArray, List.all_cons, Bool.and_eq_true, decide_eq_true_iff] at ih ⊢
    exact ⟨hc, ih⟩
  | .cons .non _, _, e => by cases e
  | .cons (.bl _) _, _, e => by cases e
  | .cons (.int _) _, _, e => by cases e
  | .cons (.str _) _, _, e => by cases e
  | .cons .nil _, _, e => by cases e
  | .cons (.cons _ _) _, _, e => by cases e
  | .cons (.tup _) _, _, e => by cases e
  | .cons (.lst _) _, _, e => by cases e
  | .cons (.ref _) _, _, e => by cases e
  | .non, _, e => by cases e
  | .bl _, _, e => by cases e
  | .int _, _, e => by cases e
  | .str _, _, e => by cases e
  | .tup _, _, e => by cases e
  | .lst _, _, e => by cases e
  | .ref _, _, e => by cases e
  | .ch _, _, e => by cases e
theorem str_beq (l k : List Nat) : ((⟨l.toArray⟩ : Str) == (⟨k.toArray⟩ : Str)) = decide (l = k) := by
  rw [Bool.eq_iff_iff, beq_iff_eq, decide_eq_true_iff]
  constructor
  · intro e
    injection e with e
    simpa using congrArg Array.toList e
  · intro e; rw [e]
theorem chk_ok {g : Gm} {m : Nat} {H : Hp} : ∀ v : EV, (∀ x n, R g m H v x → chk v n = true → ∃ d, (Dt v).1 = some d ∧ d.canLay0 = true ∧ d.depth ≤ n) ∧ (∀ xs n, RL g m H v xs → chk v n = true → ∃ ds, (Dt v).2 = some ds ∧ PyData.canLayAll0 ds = true ∧ PyData.depthAll ds ≤ n)
  | .non => ⟨fun x n r e => ⟨.none, rfl, by simp [PyData.canLay0], by simp [PyData.depth]⟩, fun _ _ r => r.elim⟩
  | .bl b => ⟨fun x n r e => ⟨.bool b, rfl, by simp [PyData.canLay0], by simp [PyData.depth]⟩, fun _ _ r => r.elim⟩
  | .int i => ⟨fun x n r e => ⟨.int i, rfl, by simp [PyData.canLay0], by simp [PyData.depth]⟩, fun _ _ r => r.elim⟩
  | .str s => ⟨fun x n r e => by
    obtain ⟨l, hl, _⟩ := r
    exact ⟨.str ⟨l.toArray⟩, by show (codes s).map _ = _; rw [hl]; rfl, by simpa [PyData.canLay0] using codes_ok s l hl, by simp [PyData.depth]⟩, fun _ _ r => r.elim⟩
  | .nil => ⟨fun _ _ r => r.elim, fun xs n r e => ⟨[], rfl, by simp [PyData.canLayAll0], by simp [PyData.depthAll]⟩⟩
  | .cons a t => ⟨fun x n r e => by
    match a, r with
    | .ch C, r => exact absurd (show false = true from e) (by decide)
    | .lst (.ch C), r =>
      cases n with
      | zero => exact absurd (show false = true from e) (by decide)
      | succ n => exact absurd (show false = true from e) (by decide), fun xs n r e => by
    obtain ⟨v, q, rfl, h1, h2⟩ := r
    have e' : Bool.rec (motive := fun _ => Bool) false (chk t n) (chk a n) = true := e
    cases z : chk a n with
    | false => rw [z] at e'; cases e'
    | true =>
      rw [z] at e'
      obtain ⟨d, d1, d2, d3⟩ := (chk_ok a).1 v n h1 z
      obtain ⟨ds, s1, s2, s3⟩ := (chk_ok t).2 q n h2 e'
      refine ⟨d :: ds, ?_, by simp [PyData.canLayAll0, d2, s2], by simp only [PyData.depthAll]; omega⟩
      show (match (Dt a).1, (Dt t).2 with | some d, some ds => some (d :: ds) | _, _ => none) = _
      rw [d1, s1]⟩
  | .tup a => ⟨fun x n r e => by
    obtain ⟨p, vs, rfl, _, _, h2⟩ := r
    cases n with
    | zero => exact nomatch (show false = true from e)
    | succ n =>
      obtain ⟨ds, s1, s2, s3⟩ := (chk_ok a).2 vs n h2 e
      refine ⟨.tuple ds, by show (Dt a).2.map _ = _; rw [s1]; rfl, by simpa [PyData.canLay0] using s2, by simp only [PyData.depth]; omega⟩, fun _ _ r => r.elim⟩
  | .lst a => ⟨fun x n r e => by
    obtain ⟨p, vs, rfl, _, _, h2⟩ := r
    cases n with
    | zero => exact nomatch (show false = true from e)
    | succ n =>
      obtain ⟨ds, s1, s2, s3⟩ := (chk_ok a).2 vs n h2 e
      refine ⟨.list ds, by show (Dt a).2.map _ = _; rw [s1]; rfl, by simpa [PyData.canLay0] using s2, by simp only [PyData.depth]; omega⟩, fun _ _ r => r.elim⟩
  | .ref _ => ⟨fun _ _ _ e => (nomatch (show false = true from e)), fun _ _ r => r.elim⟩
  | .ch _ => ⟨fun _ _ r => r.elim, fun _ _ r => r.elim⟩
theorem Dt_cons {a t : EV} {es : List PyData} (h : (Dt (.cons a t)).2 = some es) : ∃ e r, es = e :: r ∧ (Dt a).1 = some e ∧ (Dt t).2 = some r := by
  have h' : (match (Dt a).1, (Dt t).2 with | some d, some ds => some (d :: ds) | _, _ => none) = some es := h
  split at h'
  · rename_i d ds q1 q2
    cases h'
    exact ⟨d, ds, rfl, q1, q2⟩
  · cases h'
theorem Dt_str {s : EV} {e : PyData} (h : (Dt (.str s)).1 = some e) : ∃ l, codes s = some l ∧ e = .str ⟨l.toArray⟩ := by
  have h' : (codes s).map (fun l => PyData.str ⟨l.toArray⟩) = some e := h
  cases q : codes s with
  | none => rw [q] at h'; cases h'
  | some l => rw [q] at h'; cases h'; exact ⟨l, rfl, rfl⟩
theorem Dt_tup {s : EV} {e : PyData} (h : (Dt (.tup s)).1 = some e) : ∃ l, (Dt s).2 = some l ∧ e = .tuple l := by
  have h' : (Dt s).2.map PyData.tuple = some e := h
  cases q : (Dt s).2 with
  | none => rw [q] at h'; cases h'
  | some l => rw [q] at h'; cases h'; exact ⟨l, rfl, rfl⟩
theorem Dt_lst {s : EV} {e : PyData} (h : (Dt (.lst s)).1 = some e) : ∃ l, (Dt s).2 = some l ∧ e = .list l := by
  have h' : (Dt s).2.map PyData.list = some e := h
  cases q : (Dt s).2 with
  | none => rw [q] at h'; cases h'
  | some l => rw [q] at h'; cases h'; exact ⟨l, rfl, rfl⟩
theorem eqE_data : ∀ x : EV, (∀ y d e, (Dt x).1 = some d → (Dt y).1 = some e → eqE x y = PyData.eqv d e) ∧ (∀ y ds es, (Dt x).2 = some ds → (Dt y).2 = some es → eqE x y = PyData.eqvAll ds es)
  | .non => ⟨fun y d e h1 h2 => by
    cases h1
    cases y with
    | non => cases h2; simp [PyData.eqv, eqE]
    | bl => cases h2; simp [PyData.eqv, eqE]
    | int => cases h2; simp [PyData.eqv, eqE]
    | str => obtain ⟨_, _, rfl⟩ := Dt_str h2; simp [PyData.eqv, eqE]
    | tup => obtain ⟨_, _, rfl⟩ := Dt_tup h2; simp [PyData.eqv, eqE]
    | lst => obtain ⟨_, _, rfl⟩ := Dt_lst h2; simp [PyData.eqv, eqE]
    | _ => (cases h2), fun _ _ _ h => (nomatch h)⟩
  | .bl b => ⟨fun y d e h1 h2 => by
    cases h1
    cases y with
    | non => cases h2; simp [PyData.eqv, eqE]
    | bl c => cases h2; cases b <;> cases c <;> simp [PyData.eqv, eqE]
    | int j =>
      cases h2
      show eqI (b2i' b) j = _
      rw [eqI_eq]
      cases b <;> simp [PyData.eqv, b2i']
    | str => obtain ⟨_, _, rfl⟩ := Dt_str h2; simp [PyData.eqv, eqE]
    | tup => obtain ⟨_, _, rfl⟩ := Dt_tup h2; simp [PyData.eqv, eqE]
    | lst => obtain ⟨_, _, rfl⟩ := Dt_lst h2; simp [PyData.eqv, eqE]
    | _ => (cases h2), fun _ _ _ h => (nomatch h)⟩
  | .int i => ⟨fun y d e h1 h2 => by
    cases h1
    cases y with
    | non => cases h2; simp [PyData.eqv, eqE]
    | bl c =>
      cases h2
      show eqI i (b2i' c) = _
      rw [eqI_eq]
      cases c <;> simp [PyData.eqv, b2i']
    | int j =>
      cases h2
      show eqI i j = _
      rw [eqI_eq]
      simp [PyData.eqv]
    | str => obtain ⟨_, _, rfl⟩ := Dt_str h2; simp [PyData.eqv, eqE]
    | tup => obtain ⟨_, _, rfl⟩ := Dt_tup h2; simp [PyData.eqv, eqE]
    | lst => obtain ⟨_, _, rfl⟩ := Dt_lst h2; simp [PyData.eqv, eqE]
    | _ => (cases h2), fun _ _ _ h => (nomatch h)⟩
  | .str s => ⟨fun y d e h1 h2 => by
    obtain ⟨l, hl, rfl⟩ := Dt_str h1
    cases y with
    | non => cases h2; simp [PyData.eqv, eqE]
    | bl => cases h2; simp [PyData.eqv, eqE]
    | int => cases h2; simp [PyData.eqv, eqE]
    | str t =>
      obtain ⟨k, hk, rfl⟩ := Dt_str h2
      show eqE s t = _
      rw [eqE_codes s t l k hl hk]
      rw [PyData.eqv, str_beq]
    | tup => obtain ⟨_, _, rfl⟩ := Dt_tup h2; simp [PyData.eqv, eqE]
    | lst => obtain ⟨_, _, rfl⟩ := Dt_lst h2; simp [PyData.eqv, eqE]
    | _ => (cases h2), fun _ _ _ h => (nomatch h)⟩
  | .nil => ⟨fun _ _ _ h => (nomatch h), fun y ds es h1 h2 => by
    cases h1
    cases y with
    | nil => cases h2; simp [PyData.eqvAll, eqE]
    | cons => obtain ⟨_, _, rfl, _⟩ := Dt_cons h2; simp [PyData.eqvAll, eqE]
    | _ => (cases h2)⟩
  | .cons a t => ⟨fun _ _ _ h => (nomatch h), fun y ds es h1 h2 => by
    obtain ⟨d, r, rfl, q1, q2⟩ := Dt_cons h1
    cases y with
    | nil => cases h2; simp [PyData.eqvAll, eqE]
    | cons b u =>
      obtain ⟨e, r', rfl, p1, p2⟩ := Dt_cons h2
      show andB (eqE a b) (eqE t u) = _
      rw [andB_eq, (eqE_data a).1 b d e q1 p1, (eqE_data t).2 u r r' q2 p2, PyData.eqvAll]
    | _ => (cases h2)⟩
  | .tup s => ⟨fun y d e h1 h2 => by
    obtain ⟨l, hl, rfl⟩ := Dt_tup h1
    cases y with
    | non => cases h2; simp [PyData.eqv, eqE]
    | bl => cases h2; simp [PyData.eqv, eqE]
    | int => cases h2; simp [PyData.eqv, eqE]
    | str => obtain ⟨_, _, rfl⟩ := Dt_str h2; simp [PyData.eqv, eqE]
    | tup t =>
      obtain ⟨k, hk, rfl⟩ := Dt_tup h2
      show eqE s t = _
      rw [(eqE_data s).2 t l k hl hk, PyData.eqv]
    | lst => obtain ⟨_, _, rfl⟩ := Dt_lst h2; simp [PyData.eqv, eqE]
    | _ => (cases h2), fun _ _ _ h => (nomatch h)⟩
  | .lst s => ⟨fun y d e h1 h2 => by
    obtain ⟨l, hl, rfl⟩ := Dt_lst h1
    cases y with
    | non => cases h2; simp [PyData.eqv, eqE]
    | bl => cases h2; simp [PyData.eqv, eqE]
    | int => cases h2; simp [PyData.eqv, eqE]
    | str => obtain ⟨_, _, rfl⟩ := Dt_str h2; simp [PyData.eqv, eqE]
    | tup => obtain ⟨_, _, rfl⟩ := Dt_tup h2; simp [PyData.eqv, eqE]
    | lst t =>
      obtain ⟨k, hk, rfl⟩ := Dt_lst h2
      show eqE s t = _
      rw [(eqE_data s).2 t l k hl hk, PyData.eqv]
    | _ => (cases h2), fun _ _ _ h => (nomatch h)⟩
  | .ref _ => ⟨fun _ _ _ h => (nomatch h), fun _ _ _ h => (nomatch h)⟩
  | .ch _ => ⟨fun _ _ _ h => (nomatch h), fun _ _ _ h => (nomatch h)⟩
noncomputable def chkR (v : EV) (r : RE) : RE := Bool.rec (motive := fun _ => RE) .bad r (chk v 60)
noncomputable def fEq : EV → EV → Tr → Nat → RE := fun v w h m => chkR v (chkR w (okB (eqE v w) h m))
noncomputable def fNe : EV → EV → Tr → Nat → RE := fun v w h m => chkR v (chkR w (okB (!eqE v w) h m))
section
variable {X : Cx} {CV : Nat → Value} {W : WX} {σ : L2.St} {g : Gm} {m : Nat} {h : Tr} {H : Hp} {K : KE}
theorem chkR_of {v : EV} {x : V} {r : RE} (rx : R g m H v x) (p : PostE CV W σ g m H (chkR v r) K) : ∃ d, (Dt v).1 = some d ∧ SeqAt.shaped d = true ∧ PostE CV W σ g m H r K := by
  have p' : PostE CV W σ g m H (Bool.rec (motive := fun _ => RE) .bad r (chk v 60)) K := p
  cases z : chk v 60 with
  | false => rw [z] at p'; exact p'.elim
  | true =>
    rw [z] at p'
    obtain ⟨d, h1, h2, h3⟩ := (chk_ok v).1 x 60 rx z
    refine ⟨d, h1, ?_, p'⟩
    unfold SeqAt.shaped
    rw [h2, decide_eq_true (by omega)]; rfl
theorem o_eq {K : PySem.W.Frag} : Op2 CV W fEq (rEqD K) := fun σ g m h H v w x y Q s rx ry p => by
  obtain ⟨d, d1, d2, p⟩ := chkR_of rx p
  obtain ⟨e, e1, e2, p⟩ := chkR_of ry p
  rw [okB_eq, (eqE_data v).1 w d e d1 e1] at p
  exact ⟨d, e, (Dt_ok v).1 _ _ rx d1, (Dt_ok w).1 _ _ ry e1, d2, e2, post_ok s p _ rfl⟩
theorem o_ne {K : PySem.W.Frag} : Op2 CV W fNe (rNeD K) := fun σ g m h H v w x y Q s rx ry p => by
  obtain ⟨d, d1, d2, p⟩ := chkR_of rx p
  obtain ⟨e, e1, e2, p⟩ := chkR_of ry p
  rw [okB_eq, (eqE_data v).1 w d e d1 e1] at p
  exact ⟨d, e, (Dt_ok v).1 _ _ rx d1, (Dt_ok w).1 _ _ ry e1, d2, e2, post_ok s p _ rfl⟩
end
end Rf

namespace Rf
open PySem L2
/-! ### rules for values, either of two -/
theorem callR_or {X : Cx} {f : Value} {r r' : List V → Hp → VK → Prop} (h : CallR X f r) (h' : CallR X f r') : CallR X f (fun xs H Q => r xs H Q ∨ r' xs H Q) := fun pins s σ H xs us Q I rx q => q.elim (h pins s σ H xs us Q I rx) (h' pins s σ H xs us Q I rx)
theorem slR_or {X : Cx} {r r' : V → Option Int → Option Int → Hp → VK → Prop} (h : SlR X r) (h' : SlR X r') : SlR X (fun x lo hi H Q => r x lo hi H Q ∨ r' x lo hi H Q) := by
  intro pins s σ H x v vl vu lo hi sl Q I rx hs pl pu q
  rcases q with q | q
  · exact h pins s σ H x v vl vu lo hi sl Q I rx hs pl pu q
  · exact h' pins s σ H x v vl vu lo hi sl Q I rx hs pl pu q
section
variable {X : Cx} {CV : Nat → Value} {W : WX} {a b : CE} {ea eb : Expr} {pos p p2 : Pos} {σ : L2.St} {g : Gm} {m : Nat} {h : Tr} {H : Hp} {K : KE}
/-! ### isinstance -/
/-- the answers for None, a bool, an int, a text, a tuple, a list -/
noncomputable def fIsi (b1 b2 b3 b4 b5 b6 : Bool) : EV → Tr → Nat → RE := fun v h m => EV.rec (motive := fun _ => RE) (.ok (.bl b1) h m) (fun _ => .ok (.bl b2) h m) (fun _ => .ok (.bl b3) h m) (fun _ _ => .ok (.bl b4) h m) .bad (fun _ _ _ _ => .bad) (fun _ _ => .ok (.bl b5) h m) (fun _ _ => .ok (.bl b6) h m)
  (fun i => onLst .bad (fun _ => .ok (.bl b6) h m) (tget h i)) (fun _ => .bad) v
theorem onLst_of {i : Nat} {k : EV → RE} (s : S g m h H) (hi : i < m) (q : PostE CV W σ g m H (onLst .bad k (tget h i)) K) : ∃ xs vs, g.G (g.ρ i) ∧ tget h i = some (.lst xs) ∧ H (g.ρ i) = some (.lst vs) ∧ RL g m H xs vs.reverse ∧ PostE CV W σ g m H (k xs) K := by
  obtain ⟨o, ho, ro⟩ := s.obj i hi
  rw [ho] at q
  cases o with
  | lst xs => obtain ⟨g1, vs, hv, rv⟩ := ro; exact ⟨xs, vs, g1, ho, hv, rv, q⟩
  | dct kvs => exact ro.elim
  | dead => exact q.elim
theorem de_isi {x : Str} {Tn : String} {b1 b2 b3 b4 b5 b6 : Bool} (hg : Gl X "isinstance") (hm : X.mg "isinstance" = none) (ha : PE X ea (tE CV W a)) (hT : PE X (.Name x p2) (tC (.ty Tn)))
    (t1 : kitB "NoneType" Tn = some b1) (t2 : kitB "bool" Tn = some b2) (t3 : kitB "int" Tn = some b3) (t4 : kitB "str" Tn = some b4) (t5 : kitB "tuple" Tn = some b5) (t6 : kitB "list" Tn = some b6)
    (he : starEach [ea, .Name x p2] X.env = (false, eval ea X.env) :: starEach [.Name x p2] X.env := by rfl) (he2 : starEach [.Name x p2] X.env = (false, eval (.Name x p2) X.env) :: starEach [] X.env := by rfl) (hpl : (backTo pos (starEach [.Name x p2] X.env)).any (·.1) = false := by rfl) :
    PE X (.Call (.Name "isinstance" p) [ea, .Name x p2] [] pos) (tE CV W (eUn (fIsi b1 b2 b3 b4 b5 b6) a)) := by
  refine pe_mono (pe_callB call_isi hg hm (by decide +kernel) (pa_cons ha (pa_cons hT pa_nil he2) he) (by decide) (by decide) he hpl) fun σ H Q ⟨l, h, m, g, s, lr, q⟩ => ⟨l, h, m, g, s, lr, PostE.mono (PostE.bind q) fun g1 m1 h1 H1 v e1 s1 q1 y ry => ?_⟩
  have fin : ∀ {tn : String} {b : Bool}, TyX X.K H1 y (.type tn) → kitB tn Tn = some b → PostE CV W σ g1 m1 H1 (.ok (.bl b) h1 m1) (fun g' m' _ H' v => ∀ x, R g' m' H' v x → Q x H') → rIsi X.K [y, .ty Tn] H1 Q := fun ty kb q => ⟨y, .ty Tn, _, _, _, rfl, .ty Tn, ty, kit_ty kb, post_ok s1 q _ rfl⟩
  cases v with
  | non => cases (show y = .non from ry); exact fin (.base .non) t1 q1
  | bl i => cases (show y = .bl i from ry); exact fin (.base (.bl i)) t2 q1
  | int i => cases (show y = .int i from ry); exact fin (.base (.int i)) t3 q1
  | str i => obtain ⟨k, _, rfl⟩ := ry; exact fin (.base (.str _)) t4 q1
  | tup xs => obtain ⟨a, vs, rfl, hv, _⟩ := ry; exact fin (.base (.tup hv)) t5 q1
  | lst xs => obtain ⟨a, vs, rfl, hv, _⟩ := ry; exact fin (.base (.lst hv)) t6 q1
  | ref i =>
    obtain ⟨hi, rfl⟩ := ry
    obtain ⟨_, vs, _, _, hv, _, q2⟩ := onLst_of s1 hi q1
    exact fin (.base (.lst hv)) t6 q2
  | nil => exact q1.elim
  | cons => exact q1.elim
  | ch => exact q1.elim
/-! ### len -/
noncomputable def lenR (xs : EV) (h : Tr) (m : Nat) : RE := lenK xs 0 fun n => .ok (.int (.ofNat n)) h m
noncomputable def fLen : EV → Tr → Nat → RE := fun v h m => onCons .bad (fun x t => EV.rec (motive := fun _ => RE) .bad (fun _ => .bad) (fun _ => .bad) (fun s _ => lenK s 0 fun n => Bool.rec (motive := fun _ => RE) .bad (.ok (.int (.ofNat n)) h m) (Nat.ble n 16000000)) .bad (fun _ _ _ _ => .bad) (fun xs _ => lenR xs h m) (fun xs _ => lenR xs h m)
  (fun i => onLst .bad (fun xs => lenR xs h m) (tget h i)) (fun _ => .bad) x) v
theorem lenK_codes {α : Type} : ∀ (s : EV) (l : List Nat), codes s = some l → ∀ (n : Nat) (k : Nat → α), lenK s n k = k (n + l.length)
  | .nil, l, e, n, k => by cases (show some [] = some l from e); rfl
  | .cons (.ch c) t, l, e, n, k => by
    obtain ⟨r, rfl, q, _⟩ := codes_cons e
    show forceN (Nat.succ n) (fun m => lenK t m k) = _
    rw [forceN_eq, lenK_codes t r q]
    congr 1
    rw [List.length_cons]; omega
  | .cons .non _, _, e, _, _ => by cases e
  | .cons (.bl _) _, _, e, _, _ => by cases e
  | .cons (.int _) _, _, e, _, _ => by cases e
  | .cons (.str _) _, _, e, _, _ => by cases e
  | .cons .nil _, _, e, _, _ => by cases e
  | .cons (.cons _ _) _, _, e, _, _ => by cases e
  | .cons (.tup _) _, _, e, _, _ => by cases e
  | .cons (.lst _) _, _, e, _, _ => by cases e
  | .cons (.ref _) _, _, e, _, _ => by cases e
  | .non, _, e, _, _ => by cases e
  | .bl _, _, e, _, _ => by cases e
  | .int _, _, e, _, _ => by cases e
  | .str _, _, e, _, _ => by cases e
  | .tup _, _, e, _, _ => by cases e
  | .lst _, _, e, _, _ => by cases e
  | .ref _, _, e, _, _ => by cases e
  | .ch _, _, e, _, _ => by cases e
def rLen (K : PySem.W.Frag) : List V → Hp → VK → Prop := fun xs H Q => (∃ p ys, xs = [.ref p] ∧ (SqL K H p ys ∨ SqT K H p ys) ∧ Q (.int ys.length) H) ∨ (∃ z : Str, xs = [.str z] ∧ z.length ≤ sizeLine ∧ Q (.int z.length) H)
theorem call_lenE : CallR X (.builtin "len") (rLen X.K) := callR_or call_len_seq call_len_str
theorem onCons_of {k : EV → EV → RE} {v : EV} (q : PostE CV W σ g m H (onCons .bad k v) K) : ∃ x t, v = .cons x t ∧ PostE CV W σ g m H (k x t) K := by
  cases v with
  | cons x t => exact ⟨x, t, rfl, q⟩
  | non => exact q.elim
  | bl => exact q.elim
  | int => exact q.elim
  | str => exact q.elim
  | nil => exact q.elim
  | tup => exact q.elim
  | lst => exact q.elim
  | ref => exact q.elim
  | ch => exact q.elim
theorem o_len {Kf : PySem.W.Frag} : OpN CV W (fun v h m => arK (fLen v h m) 1 v) (rLen Kf) := fun σ g m h H v xs Q s rl q => by
  obtain ⟨hn, q⟩ := arK_of (P := fun r => PostE CV W σ g m H r _) (fun z => z) 1 v xs rl q
  obtain ⟨x, t, rfl, q⟩ := onCons_of q
  obtain ⟨y, ys, rfl, ry, rt⟩ := rl
  cases ys with
  | cons z zs => cases hn
  | nil =>
    have fin : ∀ {p : Addr} {e : EV} {vs : List V}, RL g m H e vs → (SqL Kf H p vs ∨ SqT Kf H p vs) → y = .ref p → PostE CV W σ g m H (lenR e h m) (fun g' m' _ H' v => ∀ x, R g' m' H' v x → Q x H') → rLen Kf [y] H Q := fun {p e vs} re hq hy q => by
      have q' : PostE CV W σ g m H (lenK e 0 fun n => .ok (.int (.ofNat n)) h m) _ := q
      rw [lenK_RL e vs re, Nat.zero_add] at q'
      exact .inl ⟨p, vs, by rw [hy], hq, post_ok s q' _ rfl⟩
    cases x with
    | str c =>
      obtain ⟨l, hl, rfl⟩ := ry
      have q' : PostE CV W σ g m H (lenK c 0 fun n => Bool.rec (motive := fun _ => RE) .bad (.ok (.int (.ofNat n)) h m) (Nat.ble n 16000000)) _ := q
      rw [lenK_codes c l hl, Nat.zero_add] at q'
      cases z : Nat.ble l.length 16000000 with
      | false => rw [z] at q'; exact q'.elim
      | true =>
        rw [z] at q'
        exact .inr ⟨⟨l.toArray⟩, rfl, Nat.le_of_lt (small16 (Nat.le_of_ble_eq_true z)), post_ok s q' _ (by show V.int _ = V.int _; simp [PySem.Str.length])⟩
    | tup e => obtain ⟨p, vs, rfl, hv, _, re⟩ := ry; exact fin re (.inr (SqT.of hv)) rfl q
    | lst e => obtain ⟨p, vs, rfl, hv, _, re⟩ := ry; exact fin re (.inl (SqL.of hv)) rfl q
    | ref i =>
      obtain ⟨hi, rfl⟩ := ry
      obtain ⟨e, vs, _, _, hv, re, q2⟩ := onLst_of s hi q
      have q' : PostE CV W σ g m H (lenK e 0 fun n => .ok (.int (.ofNat n)) h m) _ := q2
      rw [lenK_RL e vs.reverse re, Nat.zero_add, List.length_reverse] at q'
      exact .inl ⟨_, vs, rfl, .inl (SqL.of hv), post_ok s q' _ rfl⟩
    | non => exact q.elim
    | bl => exact q.elim
    | int => exact q.elim
    | nil => exact q.elim
    | cons => exact q.elim
    | ch => exact q.elim
end
end Rf

namespace Rf
open PySem L2
/-! ### the heap's tree -/
noncomputable def tnewK {α : Type} (o : EO) (d : α) (f : Nat) : Nat → (Tr → α) → α := Nat.rec (motive := fun _ => Nat → (Tr → α) → α) (fun _ _ => d)
  (fun _ ih n k => Nat.rec (motive := fun _ => α) (k (.node (some o) .leaf .leaf)) (fun j _ => Bool.rec (motive := fun _ => α) (ih (Nat.div j 2) fun t => k (.node none .leaf t)) (ih (Nat.div j 2) fun t => k (.node none t .leaf)) (Nat.beq (Nat.mod j 2) 0)) n) f
noncomputable def tsetK {α : Type} (o : EO) (d : α) (t : Tr) : Nat → (Tr → α) → α := Tr.rec (motive := fun _ => Nat → (Tr → α) → α) (fun n k => tnewK o d 40 n k)
  (fun v l r il ir n k => Nat.rec (motive := fun _ => α) (k (.node (some o) l r)) (fun j _ => Bool.rec (motive := fun _ => α) (ir (Nat.div j 2) fun t => k (.node v l t)) (il (Nat.div j 2) fun t => k (.node v t r)) (Nat.beq (Nat.mod j 2) 0)) n) t
theorem half_inj {i j : Nat} (h : Nat.div i 2 = Nat.div j 2) (a : Nat.beq (Nat.mod i 2) 0 = Nat.beq (Nat.mod j 2) 0) : i = j := by
  have h' : i / 2 = j / 2 := h
  have a1 : i % 2 = 0 ↔ j % 2 = 0 := by
    have e1 : Nat.beq (i % 2) 0 = Nat.beq (j % 2) 0 := a
    rw [← Nat.beq_eq, ← Nat.beq_eq, e1]
  omega
theorem tnewK_eq {α : Type} (o : EO) (d : α) : ∀ (f n : Nat) (k : Tr → α), (∃ t', (∀ i, tget t' i = if i = n then some o else none) ∧ tnewK o d f n k = k t') ∨ tnewK o d f n k = d
  | 0, n, k => .inr rfl
  | f + 1, 0, k => .inl ⟨.node (some o) .leaf .leaf, fun i => by
    cases i with
    | zero => rfl
    | succ i =>
      rw [if_neg (by omega)]
      show Bool.rec (motive := fun _ => Option EO) none none (Nat.beq (Nat.mod i 2) 0) = none
      cases Nat.beq (Nat.mod i 2) 0 <;> rfl, rfl⟩
  | f + 1, n + 1, k => by
    show (∃ t', _ ∧ Bool.rec (motive := fun _ => α) (tnewK o d f (Nat.div n 2) fun t => k (.node none .leaf t)) (tnewK o d f (Nat.div n 2) fun t => k (.node none t .leaf)) (Nat.beq (Nat.mod n 2) 0) = k t') ∨ Bool.rec (motive := fun _ => α) _ _ _ = d
    cases z : Nat.beq (Nat.mod n 2) 0 with
    | false =>
      rcases tnewK_eq o d f (Nat.div n 2) (fun t => k (.node none .leaf t)) with ⟨t', h, e⟩ | e
      · refine .inl ⟨.node none .leaf t', fun i => ?_, e⟩
        cases i with
        | zero => rfl
        | succ i =>
          show Bool.rec (motive := fun _ => Option EO) (tget t' (Nat.div i 2)) none (Nat.beq (Nat.mod i 2) 0) = _
          cases y : Nat.beq (Nat.mod i 2) 0 with
          | true => rw [if_neg (fun e => by have : i = n := by omega
                                            rw [this, z] at y; cases y)]
          | false =>
            show tget t' (Nat.div i 2) = _
            rw [h]
            by_cases q : i = n
            · rw [q, if_pos rfl, if_pos rfl]
            · rw [if_neg (fun w => q (half_inj w (by rw [y, z]))), if_neg (by omega)]
      · exact .inr e
    | true =>
      rcases tnewK_eq o d f (Nat.div n 2) (fun t => k (.node none t .leaf)) with ⟨t', h, e⟩ | e
      · refine .inl ⟨.node none t' .leaf, fun i => ?_, e⟩
        cases i with
        | zero => rfl
        | succ i =>
          show Bool.rec (motive := fun _ => Option EO) none (tget t' (Nat.div i 2)) (Nat.beq (Nat.mod i 2) 0) = _
          cases y : Nat.beq (Nat.mod i 2) 0 with
          | false => rw [if_neg (fun e => by have : i = n := by omega
                                             rw [this, z] at y; cases y)]
          | true =>
            show tget t' (Nat.div i 2) = _
            rw [h]
            by_cases q : i = n
            · rw [q, if_pos rfl, if_pos rfl]
            · rw [if_neg (fun w => q (half_inj w (by rw [y, z]))), if_neg (by omega)]
      · exact .inr e
theorem tsetK_eq {α : Type} (o : EO) (d : α) : ∀ (t : Tr) (n : Nat) (k : Tr → α), (∃ t', (∀ i, tget t' i = if i = n then some o else tget t i) ∧ tsetK o d t n k = k t') ∨ tsetK o d t n k = d
  | .leaf, n, k => by
    rcases tnewK_eq o d 40 n k with ⟨t', h, e⟩ | e
    · exact .inl ⟨t', h, e⟩
    · exact .inr e
  | .node v l r, 0, k => .inl ⟨.node (some o) l r, fun i => by cases i <;> rfl, rfl⟩
  | .node v l r, n + 1, k => by
    show (∃ t', _ ∧ Bool.rec (motive := fun _ => α) (tsetK o d r (Nat.div n 2) fun t => k (.node v l t)) (tsetK o d l (Nat.div n 2) fun t => k (.node v t r)) (Nat.beq (Nat.mod n 2) 0) = k t') ∨ Bool.rec (motive := fun _ => α) _ _ _ = d
    cases z : Nat.beq (Nat.mod n 2) 0 with
    | false =>
      rcases tsetK_eq o d r (Nat.div n 2) (fun t => k (.node v l t)) with ⟨t', h, e⟩ | e
      · refine .inl ⟨.node v l t', fun i => ?_, e⟩
        cases i with
        | zero => rfl
        | succ i =>
          show Bool.rec (motive := fun _ => Option EO) (tget t' (Nat.div i 2)) (tget l (Nat.div i 2)) (Nat.beq (Nat.mod i 2) 0) = if i + 1 = n + 1 then some o else Bool.rec (motive := fun _ => Option EO) (tget r (Nat.div i 2)) (tget l (Nat.div i 2)) (Nat.beq (Nat.mod i 2) 0)
          cases y : Nat.beq (Nat.mod i 2) 0 with
          | true => rw [if_neg (fun e => by have : i = n := by omega
                                            rw [this, z] at y; cases y)]
          | false =>
            show tget t' (Nat.div i 2) = _
            rw [h]
            by_cases q : i = n
            · rw [q, if_pos rfl, if_pos rfl]
            · rw [if_neg (fun w => q (half_inj w (by rw [y, z]))), if_neg (by omega)]
      · exact .inr e
    | true =>
      rcases tsetK_eq o d l (Nat.div n 2) (fun t => k (.node v t r)) with ⟨t', h, e⟩ | e
      · refine .inl ⟨.node v t' r, fun i => ?_, e⟩
        cases i with
        | zero => rfl
        | succ i =>
          show Bool.rec (motive := fun _ => Option EO) (tget r (Nat.div i 2)) (tget t' (Nat.div i 2)) (Nat.beq (Nat.mod i 2) 0) = if i + 1 = n + 1 then some o else Bool.rec (motive := fun _ => Option EO) (tget r (Nat.div i 2)) (tget l (Nat.div i 2)) (Nat.beq (Nat.mod i 2) 0)
          cases y : Nat.beq (Nat.mod i 2) 0 with
          | false => rw [if_neg (fun e => by have : i = n := by omega
                                             rw [this, z] at y; cases y)]
          | true =>
            show tget t' (Nat.div i 2) = _
            rw [h]
            by_cases q : i = n
            · rw [q, if_pos rfl, if_pos rfl]
            · rw [if_neg (fun w => q (half_inj w (by rw [y, z]))), if_neg (by omega)]
      · exact .inr e
section
variable {g : Gm} {m : Nat} {h h' : Tr} {H : Hp}
theorem S.livesAt (s : S g m h H) {i : Nat} {o : EO} (hi : i < m) (ho : tget h i = some o) (lo : live o) : ∃ u, H (g.ρ i) = some u := by
  obtain ⟨u, hu, r⟩ := s.obj i hi
  rw [ho] at hu
  cases hu
  cases o with
  | lst xs => obtain ⟨_, vs, q, _⟩ := r; exact ⟨_, q⟩
  | dct kvs => exact r.elim
  | dead => exact lo.elim
/-- a new list of its own -/
def Gm.alloc (g : Gm) (m : Nat) (p : Addr) : Gm := ⟨fun i => if i = m then p else g.ρ i, fun a => g.M a ∨ a = p, fun a => g.G a ∨ a = p, fun a q => q.elim (fun z => .inl (g.sub a z)) .inr⟩
theorem alloc_ext {p : Addr} {o : HO} (s : S g m h H) (hp : H p = none) : Ext g m H (g.alloc m p) (m + 1) (upd H p o) :=
  ⟨Nat.le_succ _, fun i hi => if_neg (by omega), fun a q => q.elim .inl fun e => .inr (by rw [e]; exact hp), fun a q => q.elim .inl fun e => .inr (by rw [e]; exact hp), fun a u e _ => by rw [upd_ne (ne_of_none e hp)]; exact e,
    fun a h1 h2 => ⟨.inl h1, fun q => q.elim h2 fun e => by
      obtain ⟨u, hu⟩ := s.mem a h1
      rw [e, hp] at hu; cases hu⟩⟩
theorem alloc_S {p : Addr} {e : EV} {vs : List V} (s : S g m h H) (hp : H p = none) (rl : RL g m H e vs.reverse) (ht : ∀ i, tget h' i = if i = m then some (.lst e) else tget h i) : S (g.alloc m p) (m + 1) h' (upd H p (.lst vs)) := by
  have ex := alloc_ext (o := .lst vs) s hp
  have rm : (g.alloc m p).ρ m = p := if_pos rfl
  have ro : ∀ i, i < m → (g.alloc m p).ρ i = g.ρ i := ex.eq
  have np : ∀ i o, i < m → tget h i = some o → live o → g.ρ i ≠ p := fun i o hi ho lo z => by
    obtain ⟨u, hu⟩ := s.livesAt hi ho lo
    rw [z, hp] at hu; cases hu
  refine ⟨fun i j o u hi hj ho hu lo lu e => ?_, fun i hi => ?_, fun a q => ?_⟩
  · rw [ht] at ho hu
    by_cases a : i = m
    · by_cases b : j = m
      · omega
      · rw [if_neg b] at hu
        rw [a, rm, ro j (by omega)] at e
        exact absurd e.symm (np j u (by omega) hu lu)
    · rw [if_neg a] at ho
      by_cases b : j = m
      · rw [b, rm, ro i (by omega)] at e
        exact absurd e (np i o (by omega) ho lo)
      · rw [if_neg b] at hu
        rw [ro i (by omega), ro j (by omega)] at e
        exact s.inj i j o u (by omega) (by omega) ho hu lo lu e
  · by_cases a : i = m
    · subst a
      refine ⟨.lst e, by rw [ht, if_pos rfl], ?_⟩
      rw [rm]
      exact ⟨.inr rfl, vs, upd_same, RL.mono ex rl⟩
    · obtain ⟨u, hu, r⟩ := s.obj i (by omega)
      refine ⟨u, by rw [ht, if_neg a]; exact hu, ?_⟩
      rw [ro i (by omega)]
      cases u with
      | lst xs => obtain ⟨g1, ws, q, rw'⟩ := r; exact ⟨.inl g1, ws, (upd_ne (ne_of_none q hp)).trans q, RL.mono ex rw'⟩
      | dct kvs => exact r.elim
      | dead => trivial
  · rcases q with q | q
    · obtain ⟨u, hu⟩ := s.mem a q
      exact ⟨u, (upd_ne (ne_of_none hu hp)).trans hu⟩
    · exact ⟨_, by rw [q]; exact upd_same⟩
/-- a list of its own changes -/
theorem put_ext {i : Nat} {o : HO} (hG : g.G (g.ρ i)) : Ext g m H g m (upd H (g.ρ i) o) :=
  ⟨Nat.le_refl _, fun _ _ => rfl, fun _ q => .inl q, fun _ q => .inl q, fun a u e ng => by rw [upd_ne (fun z => ng (by rw [z]; exact hG))]; exact e, fun _ a b => ⟨a, b⟩⟩
theorem put_S {i : Nat} {xs e : EV} {vs : List V} (s : S g m h H) (hi : i < m) (ho : tget h i = some (.lst xs)) (hG : g.G (g.ρ i)) (rl : RL g m H e vs.reverse) (ht : ∀ j, tget h' j = if j = i then some (.lst e) else tget h j) : S g m h' (upd H (g.ρ i) (.lst vs)) := by
  have ex := put_ext (m := m) (H := H) (o := .lst vs) hG
  refine ⟨fun j k o u hj hk hjo hku lo lu q => ?_, fun j hj => ?_, fun a q => ?_⟩
  · have old : ∀ j o, j < m → tget h' j = some o → live o → ∃ o', tget h j = some o' ∧ live o' := fun j o _ z lz => by
      rw [ht] at z
      by_cases b : j = i
      · exact ⟨.lst xs, by rw [b]; exact ho, trivial⟩
      · rw [if_neg b] at z; exact ⟨o, z, lz⟩
    obtain ⟨o', a1, a2⟩ := old j o hj hjo lo
    obtain ⟨u', b1, b2⟩ := old k u hk hku lu
    exact s.inj j k o' u' hj hk a1 b1 a2 b2 q
  · by_cases b : j = i
    · subst b
      exact ⟨.lst e, by rw [ht, if_pos rfl], hG, vs, upd_same, RL.mono ex rl⟩
    · obtain ⟨u, hu, r⟩ := s.obj j hj
      refine ⟨u, by rw [ht, if_neg b]; exact hu, ?_⟩
      cases u with
      | lst ys => obtain ⟨g1, ws, q, r'⟩ := r; exact ⟨g1, ws, (upd_ne (fun z => b (s.inj j i _ _ hj hi hu ho trivial trivial z))).trans q, RL.mono ex r'⟩
      | dct kvs => exact r.elim
      | dead => trivial
  · by_cases b : a = g.ρ i
    · exact ⟨_, by rw [b]; exact upd_same⟩
    · obtain ⟨u, hu⟩ := s.mem a q
      exact ⟨u, (upd_ne b).trans hu⟩
/-- a list of its own changes no more -/
def Gm.kill (g : Gm) (p : Addr) : Gm := ⟨g.ρ, fun a => g.M a ∧ a ≠ p, fun a => g.G a ∧ a ≠ p, fun a q => ⟨g.sub a q.1, q.2⟩⟩
theorem kill_ext {p : Addr} (hG : g.G p) : Ext g m H (g.kill p) m H :=
  ⟨Nat.le_refl _, fun _ _ => rfl, fun _ q => .inl q.1, fun _ q => .inl q.1, fun _ _ e _ => e, fun a h1 h2 => ⟨⟨h1, fun z => h2 (by rw [z]; exact hG)⟩, fun q => h2 q.1⟩⟩
theorem kill_S {i : Nat} {xs : EV} (s : S g m h H) (hi : i < m) (ho : tget h i = some (.lst xs)) (hG : g.G (g.ρ i)) (ht : ∀ j, tget h' j = if j = i then some .dead else tget h j) : S (g.kill (g.ρ i)) m h' H := by
  have ex := kill_ext (m := m) (H := H) hG
  refine ⟨fun j k o u hj hk hjo hku lo lu q => ?_, fun j hj => ?_, fun a q => s.mem a q.1⟩
  · have old : ∀ j o, tget h' j = some o → live o → tget h j = some o := fun j o z lz => by
      rw [ht] at z
      by_cases b : j = i
      · rw [if_pos b] at z; cases z; exact lz.elim
      · rw [if_neg b] at z; exact z
    exact s.inj j k o u hj hk (old j o hjo lo) (old k u hku lu) lo lu q
  · by_cases b : j = i
    · exact ⟨.dead, by rw [ht, if_pos b], trivial⟩
    · obtain ⟨u, hu, r⟩ := s.obj j hj
      refine ⟨u, by rw [ht, if_neg b]; exact hu, ?_⟩
      cases u with
      | lst ys => obtain ⟨g1, ws, q, r'⟩ := r; exact ⟨⟨g1, fun z => b (s.inj j i _ _ hj hi hu ho trivial trivial z)⟩, ws, q, RL.mono ex r'⟩
      | dct kvs => exact r.elim
      | dead => trivial
end
/-! ### lists that are made to be changed -/
noncomputable def eLstM (es : CE) : CE := fun l h m => bindE (es l h m) fun xs h m => lenOk xs (revK xs .nil fun r => tsetK (.lst r) .bad h m fun h' => forceN (Nat.succ m) fun m' => .ok (.ref m) h' m')
noncomputable def eApp (a b : CE) : CE := fun l h m => bindE (a l h m) fun x h m => onRef .bad (fun i => onLst .bad (fun _ => bindE (b l h m) fun y h m => onLst .bad (fun xs => lenOk xs (tsetK (.lst (.cons y xs)) .bad h i fun h' => .ok .non h' m)) (tget h i)) (tget h i)) x
noncomputable def eFrz (a : CE) : CE := fun l h m => bindE (a l h m) fun v h m => EV.rec (motive := fun _ => RE) (.ok .non h m) (fun b => .ok (.bl b) h m) (fun i => .ok (.int i) h m) (fun s _ => .ok (.str s) h m) .bad (fun _ _ _ _ => .bad) (fun xs _ => .ok (.tup xs) h m) (fun xs _ => .ok (.lst xs) h m)
  (fun i => onLst .bad (fun xs => revK xs .nil fun r => tsetK .dead .bad h i fun h' => .ok (.lst r) h' m) (tget h i)) (fun _ => .bad) v
section
variable {X : Cx} {CV : Nat → Value} {W : WX} {a b : CE} {ea eb : Expr} {es : List Expr} {pos p p2 : Pos} {σ : L2.St} {g : Gm} {m : Nat} {h : Tr} {H : Hp} {K : KE}
theorem onRef_of {k : Nat → RE} {v : EV} {x : V} (rx : R g m H v x) (q : PostE CV W σ g m H (onRef .bad k v) K) : ∃ i, v = .ref i ∧ i < m ∧ x = .ref (g.ρ i) ∧ PostE CV W σ g m H (k i) K := by
  cases v with
  | ref i => exact ⟨i, rfl, rx.1, rx.2, q⟩
  | non => exact q.elim
  | bl => exact q.elim
  | int => exact q.elim
  | str => exact q.elim
  | nil => exact q.elim
  | cons => exact q.elim
  | tup => exact q.elim
  | lst => exact q.elim
  | ch => exact q.elim
theorem de_lstM (ha : PA X es (tA CV W a)) : PE X (.List es pos) (tE CV W (eLstM a)) := pe_mono (pe_lst ha) fun σ H Q ⟨l, h, m, g, s, lr, q⟩ => ⟨l, h, m, g, s, lr, PostE.mono (PostE.bind q) fun g1 m1 h1 H1 v e1 s1 q1 xs rx => by
  obtain ⟨z, q⟩ := lenOk_of rx q1
  refine ⟨Nat.le_of_lt (small16 z), fun p hp => ?_⟩
  obtain ⟨r, er, rr⟩ := revK_RL (α := RE) v xs .nil [] rx (show RL g1 m1 H1 .nil [] from rfl) fun r => tsetK (.lst r) .bad h1 m1 fun h' => forceN (Nat.succ m1) fun m' => .ok (.ref m1) h' m'
  rw [er] at q
  rw [List.append_nil] at rr
  rcases tsetK_eq (.lst r) RE.bad h1 m1 (fun h' => forceN (Nat.succ m1) fun m' => .ok (.ref m1) h' m') with ⟨h', ht, et⟩ | et
  · rw [et, forceN_eq] at q
    have ex := alloc_ext (o := .lst xs) s1 hp
    exact q (g1.alloc m1 p) (upd H1 p (.lst xs)) ex (alloc_S s1 hp rr ht) _ ⟨Nat.lt_succ_self _, by show V.ref p = V.ref (if m1 = m1 then p else _); rw [if_pos rfl]⟩
  · rw [et] at q; exact q.elim⟩
theorem te_app (h0 : ∀ σ H Q, tE CV W (eApp a b) σ H Q → True) {Kf : PySem.W.Frag} {σ : L2.St} {H : Hp} {Q : VK} (t : tE CV W (eApp a b) σ H Q) : tBM Kf "list" rAppend (tE CV W a) (tCons (tE CV W b) tNil) σ H Q := by
  obtain ⟨l, h, m, g, s, lr, q⟩ := t
  refine ⟨l, h, m, g, s, lr, PostE.mono (PostE.bind q) fun g1 m1 h1 H1 v e1 s1 q1 x rx => ?_⟩
  obtain ⟨i, rfl, hi, rfl, q⟩ := onRef_of rx q1
  obtain ⟨xs, vs, gG, ho, hv, rv, q⟩ := onLst_of s1 hi q
  refine ⟨.inl ⟨rfl, vs, SqL.of hv⟩, l, h1, m1, g1, s1, lr.mono e1, PostE.mono (PostE.bind q) fun g2 m2 h2 H2 w e2 s2 q2 y ry => ?_⟩
  have hi2 : i < m2 := Nat.lt_of_lt_of_le hi e2.le
  obtain ⟨ys, ws, gG2, ho2, hw, rw', q⟩ := onLst_of s2 hi2 q2
  obtain ⟨z, q⟩ := lenOk_of rw' q
  rw [List.length_reverse] at z
  refine ⟨g1.ρ i, ws, y, rfl, rfl, by rw [← e2.eq i hi]; exact hw, small16 z, ?_⟩
  rcases tsetK_eq (.lst (.cons w ys)) RE.bad h2 i (fun h' => .ok .non h' m2) with ⟨h', ht, et⟩ | et
  · rw [et] at q
    rw [← e2.eq i hi]
    refine q g2 (upd H2 (g2.ρ i) (.lst (ws ++ [y]))) (put_ext gG2) (put_S s2 hi2 ho2 gG2 ?_ ht) .non rfl
    rw [List.reverse_append]
    exact ⟨y, _, rfl, ry, rw'⟩
  · rw [et] at q; exact q.elim
theorem de_frz (ha : PE X ea (tE CV W a)) : PE X ea (tE CV W (eFrz a)) := pe_mono ha fun σ H Q ⟨l, h, m, g, s, lr, q⟩ => ⟨l, h, m, g, s, lr, PostE.mono (PostE.bind q) fun g1 m1 h1 H1 v e1 s1 q1 x rx => by
  cases v with
  | non => exact post_ok s1 q1 x rx
  | bl => exact post_ok s1 q1 x rx
  | int => exact post_ok s1 q1 x rx
  | str => exact post_ok s1 q1 x rx
  | tup => exact post_ok s1 q1 x rx
  | lst => exact post_ok s1 q1 x rx
  | nil => exact q1.elim
  | cons => exact q1.elim
  | ch => exact q1.elim
  | ref i =>
    obtain ⟨hi, rfl⟩ := rx
    obtain ⟨xs, vs, gG, ho, hv, rv, q⟩ := onLst_of s1 hi q1
    obtain ⟨r, er, rr⟩ := revK_RL (α := RE) xs vs.reverse .nil [] rv (show RL g1 m1 H1 .nil [] from rfl) fun r => tsetK .dead .bad h1 i fun h' => .ok (.lst r) h' m1
    rw [er] at q
    rw [List.reverse_reverse, List.append_nil] at rr
    rcases tsetK_eq .dead RE.bad h1 i (fun h' => .ok (.lst r) h' m1) with ⟨h', ht, et⟩ | et
    · rw [et] at q
      have ex := kill_ext (m := m1) (H := H1) gG
      exact q (g1.kill (g1.ρ i)) H1 ex (kill_S s1 hi ho gG ht) _ ⟨g1.ρ i, vs, rfl, hv, fun z => z.2 rfl, RL.mono ex rr⟩
    · rw [et] at q; exact q.elim⟩
end
end Rf

namespace Rf
open PySem L2
/-! ### what is walked -/
/-- the iterator J gives vs while F stands -/
structure Gives (J : It) (vs : List V) (F : Gm → Hp → Prop) : Prop where
  s1 : Stays F
  s2 : Stays2 F
  go : ∀ i g H, F g H → i < vs.length → J.go i H
  yld : ∀ i g H x H', F g H → J.yld i H x H' → H' = H ∧ (i < vs.length → vs[i]? = some x)
  stop : ∀ i g H, F g H → vs.length ≤ i → J.stop i H
def tW (CV : Nat → Value) (W : WX) (c : CE) : TI := fun σ H Rr => ∃ l h m g, S g m h H ∧ LR g m H l σ ∧ PostE CV W σ g m H (c l h m) fun g' m' _ H' v => ∀ J vs F, RL g' m' H' v vs → F g' H' → Gives J vs F → Rr J H'
section
variable {X : Cx} {CV : Nat → Value} {W : WX} {pos p p2 : Pos} {tg iter : Expr}
theorem pi_mono {w w' : TI} (h : PI X tg iter w) (k : ∀ σ H Rr, w' σ H Rr → w σ H Rr) : PI X tg iter w' := ⟨fun pins s σ H Rr I q => h.run pins s σ H Rr I (k σ H Rr q)⟩
theorem gives_list {K : PySem.W.Frag} {a : Addr} {vs : List V} : Gives (Itl K a) vs (fun g H => H a = some (.lst vs) ∧ ¬ g.M a) where
  s1 := stays_at a _
  s2 := stays2_at a _
  go := fun i g H f hi => ⟨vs, vs[i], SqL.of f.1, List.getElem?_eq_getElem hi⟩
  yld := fun i g H x H' f y => ⟨y.1, fun _ => y.2 vs (SqL.of f.1)⟩
  stop := fun i g H f hi => ⟨vs, SqL.of f.1, hi⟩
theorem gives_tup {K : PySem.W.Frag} {a : Addr} {vs : List V} : Gives (Itt K a) vs (fun g H => H a = some (.tup vs) ∧ ¬ g.M a) where
  s1 := stays_at a _
  s2 := stays2_at a _
  go := fun i g H f hi => ⟨vs, vs[i], SqT.of f.1, List.getElem?_eq_getElem hi⟩
  yld := fun i g H x H' f y => ⟨y.1, fun _ => y.2 vs (SqT.of f.1)⟩
  stop := fun i g H f hi => ⟨vs, SqT.of f.1, hi⟩
theorem gives_range {lo : Int} {n : Nat} : Gives (Itr lo n) ((List.range n).map fun i => V.int (lo + (i : Nat))) (fun _ _ => True) where
  s1 := stays_yes
  s2 := stays2_yes
  go := fun i g H f hi => by rw [List.length_map, List.length_range] at hi; exact hi
  yld := fun i g H x H' f y => ⟨y.1, fun hi => by
    rw [List.length_map, List.length_range] at hi
    rw [List.getElem?_map, List.getElem?_range hi, y.2]; rfl⟩
  stop := fun i g H f hi => by rw [List.length_map, List.length_range] at hi; exact hi
/-- a list or a tuple -/
noncomputable def cSeq (c : CE) : CE := fun l h m => bindE (c l h m) fun v h m => EV.rec (motive := fun _ => RE) .bad (fun _ => .bad) (fun _ => .bad) (fun _ _ => .bad) .bad (fun _ _ _ _ => .bad) (fun xs _ => .ok xs h m) (fun xs _ => .ok xs h m) (fun _ => .bad) (fun _ => .bad) v
theorem dp_seq {c : CE} (hi : PE X iter (tE CV W c)) : PI X tg iter (tW CV W (cSeq c)) := by
  refine pi_mono (pi_or (pi_list hi) (pi_tup hi)) fun σ H Rr ⟨l, h, m, g, s, lr, p⟩ => ?_
  have p' := PostE.bind p
  cases z : c l h m with
  | bad => rw [z] at p'; exact p'.elim
  | exc k h1 m1 => exact .inl ⟨l, h, m, g, s, lr, by rw [z] at p' ⊢; exact p'⟩
  | ok v h1 m1 =>
    rw [z] at p'
    cases v with
    | lst xs =>
      refine .inl ⟨l, h, m, g, s, lr, ?_⟩
      rw [z]
      intro g1 H1 e1 s1 x ⟨a, vs, ex, ha, na, rl⟩
      exact ⟨a, ex, ⟨vs, SqL.of ha⟩, post_ok s1 (p' g1 H1 e1 s1) (Itl X.K a) vs _ rl ⟨ha, na⟩ gives_list⟩
    | tup xs =>
      refine .inr ⟨l, h, m, g, s, lr, ?_⟩
      rw [z]
      intro g1 H1 e1 s1 x ⟨a, vs, ex, ha, na, rl⟩
      exact ⟨a, ex, ⟨vs, SqT.of ha⟩, post_ok s1 (p' g1 H1 e1 s1) (Itt X.K a) vs _ rl ⟨ha, na⟩ gives_tup⟩
    | non => exact .inl ⟨l, h, m, g, s, lr, by rw [z]; exact fun g1 H1 e1 s1 => (p' g1 H1 e1 s1).elim⟩
    | bl => exact .inl ⟨l, h, m, g, s, lr, by rw [z]; exact fun g1 H1 e1 s1 => (p' g1 H1 e1 s1).elim⟩
    | int => exact .inl ⟨l, h, m, g, s, lr, by rw [z]; exact fun g1 H1 e1 s1 => (p' g1 H1 e1 s1).elim⟩
    | str => exact .inl ⟨l, h, m, g, s, lr, by rw [z]; exact fun g1 H1 e1 s1 => (p' g1 H1 e1 s1).elim⟩
    | nil => exact .inl ⟨l, h, m, g, s, lr, by rw [z]; exact fun g1 H1 e1 s1 => (p' g1 H1 e1 s1).elim⟩
    | cons => exact .inl ⟨l, h, m, g, s, lr, by rw [z]; exact fun g1 H1 e1 s1 => (p' g1 H1 e1 s1).elim⟩
    | ref => exact .inl ⟨l, h, m, g, s, lr, by rw [z]; exact fun g1 H1 e1 s1 => (p' g1 H1 e1 s1).elim⟩
    | ch => exact .inl ⟨l, h, m, g, s, lr, by rw [z]; exact fun g1 H1 e1 s1 => (p' g1 H1 e1 s1).elim⟩
/-- range(b), range(a, b) -/
noncomputable def cRg1 (b : CE) : CE := fun l h m => bindE (b l h m) fun y h m => onInt .bad (fun j => Bool.rec (motive := fun _ => RE) .bad (rangeK j.toNat 0 fun e => .ok e h m) (Nat.ble j.natAbs 100000000)) y
noncomputable def cRg2 (a b : CE) : CE := fun l h m => bindE (a l h m) fun x h m => bindE (b l h m) fun y h m => onInt .bad (fun i => onInt .bad (fun j => Bool.rec (motive := fun _ => RE) .bad (rangeK (Int.sub j i).toNat i fun e => .ok e h m) (Nat.ble (Nat.add i.natAbs j.natAbs) 100000000)) y) x
theorem bcaseE {b : Bool} {A B : RE} {P : RE → Prop} (h : P (Bool.rec (motive := fun _ => RE) A B b)) : (b = false ∧ P A) ∨ (b = true ∧ P B) := by
  cases b with
  | false => exact .inl ⟨rfl, h⟩
  | true => exact .inr ⟨rfl, h⟩
theorem dp_rg1 {ia : Expr} {ca : CE} (hr : Gl X "range") (hm : X.mg "range" = none) (ha : PE X ia (tE CV W ca)) (hse : starEach [ia] X.env = [(false, eval ia X.env)] := by rfl) : PI X tg (.Call (.Name "range" p) [ia] [] p2) (tW CV W (cRg1 ca)) := by
  refine pi_mono (pi_range1 hr hm (pa_cons ha pa_nil hse) hse) fun σ H Rr ⟨l, h, m, g, s, lr, p⟩ => ⟨l, h, m, g, s, lr, PostE.mono (PostE.bind p) fun g1 m1 h1 H1 v e1 s1 p1 x rx => ?_⟩
  obtain ⟨j, rfl, rfl, q⟩ := onInt_of rx p1
  rcases bcaseE (P := fun r => PostE CV W σ g1 m1 H1 r _) q with ⟨_, q⟩ | ⟨z, q⟩
  · exact q.elim
  have hj := Nat.le_of_ble_eq_true z
  obtain ⟨e, ee, re⟩ := rangeK_eq (α := RE) j.toNat 0 fun e => .ok e h1 m1
  rw [ee] at q
  exact ⟨j, rfl, by omega, by omega, post_ok s1 q _ _ _ (re g1 m1 H1) trivial gives_range⟩
theorem dp_rg2 {ia ib : Expr} {ca cb : CE} (hr : Gl X "range") (hm : X.mg "range" = none) (ha : PE X ia (tE CV W ca)) (hb : PE X ib (tE CV W cb)) (hse : starEach [ia, ib] X.env = [(false, eval ia X.env), (false, eval ib X.env)] := by rfl) (hse2 : starEach [ib] X.env = [(false, eval ib X.env)] := by rfl) :
    PI X tg (.Call (.Name "range" p) [ia, ib] [] p2) (tW CV W (cRg2 ca cb)) := by
  refine pi_mono (pi_range2 hr hm (pa_cons ha (pa_cons hb pa_nil hse2) (by rw [hse, hse2])) hse hse2) fun σ H Rr ⟨l, h, m, g, s, lr, p⟩ => ⟨l, h, m, g, s, lr, PostE.mono (PostE.bind p) fun g1 m1 h1 H1 v e1 s1 p1 x rx => ?_⟩
  refine ⟨l, h1, m1, g1, s1, lr.mono e1, PostE.mono (PostE.bind p1) fun g2 m2 h2 H2 w e2 s2 p2 y ry => ?_⟩
  obtain ⟨i, rfl, rfl, q⟩ := onInt_of (R.mono e2 rx) p2
  obtain ⟨j, rfl, rfl, q⟩ := onInt_of ry q
  rcases bcaseE (P := fun r => PostE CV W σ g2 m2 H2 r _) q with ⟨_, q⟩ | ⟨z, q⟩
  · exact q.elim
  have hj : i.natAbs + j.natAbs ≤ 100000000 := Nat.le_of_ble_eq_true z
  obtain ⟨e, ee, re⟩ := rangeK_eq (α := RE) (Int.sub j i).toNat i fun e => .ok e h2 m2
  rw [ee] at q
  exact ⟨i, j, rfl, ⟨by omega, by omega, by omega, by omega⟩, post_ok s2 q _ _ _ (re g2 m2 H2) trivial gives_range⟩
/-! ### for -/
noncomputable def sForW (cg : CG) (src : CE) (body : CS) : CS := fun l h m => bindES (src l h m) l fun e h m => forL cg body e l h m
theorem ds_forW {body : List Stmt} {gt : TG} {cg : CG} {src : CE} {cb : CS} (hp : PassesOwn (model X.prog X.w) X.A X.env X.xe) (hc : X.calm = true) (hi : PI X tg iter (tW CV W src)) (hg : PG X tg gt) (hcg : tG CV W cg gt) (hb : PSs X body (tS CV W cb))
    (hs : ∀ x, foldedSetIterable iter X.env x = pure x := by intro _; rfl) : PS X (.For tg iter body [] pos) (tS CV W (sForW cg src cb)) := by
  refine ps_mono (ps_for hp hc hi hg hb hs) fun D σ H ⟨l, h, m, g, s, lr, p⟩ => ⟨l, h, m, g, s, lr, PostE.mono (PostS.bind lr p) fun g1 m1 h1 H1 v e1 s1 p1 J vs F rl f G => ?_⟩
  refine ⟨fun i k σ H => k = vs.length - i ∧ i ≤ vs.length ∧ At CV W F D cg cb vs i σ H, ⟨vs.length, by simp, Nat.zero_le _, l, h1, m1, g1, v, s1, lr.mono e1, f, rl, p1⟩, ?_⟩
  rintro i k σ H ⟨rfl, hi, w⟩
  obtain ⟨_, _, _, g2, _, _, _, f2, _⟩ := id w
  by_cases hlt : i < vs.length
  · refine .inr ⟨G.go i g2 H f2 hlt, At CV W F D cg cb vs (i + 1), fun σ' H' w' => ⟨vs.length - (i + 1), by omega, rfl, hlt, w'⟩, fun x H' y => ?_⟩
    obtain ⟨e, y2⟩ := G.yld i g2 H x H' f2 y
    subst e
    exact At.turn G.s1 hcg (fun _ _ _ q => q) (y2 hlt) w
  · have e : i = vs.length := by omega
    subst e
    exact .inl ⟨G.stop _ g2 H f2 (Nat.le_refl _), w.done⟩
/-! ### comprehensions -/
noncomputable def eLcW (own : List Nat) (cg : CGE) (src cond elt : CE) : CE := fun l h m => bindE (src l h m) fun xs h m => unAll l (lenOk xs (lcA cg cond elt xs l h m .nil)) own
theorem de_lcW {elt : Expr} {ifs : List Expr} {scope : Scope} {own : List (Str × Nat)} {gt : TG} {cg : CGE} {src ct ce : CE} (hc : X.calm = true) (hN : X.N.Nodup) (hi : PI X tg iter (tW CV W src)) (ok : BlkOk X.N X.env.scope scope own)
    (hg : ∀ (s : Shared) (H : Hp) (C : Addr) (cl : List (Str × Addr)) (fp : List Addr), PG (X.blk s H scope (compEnvC scope cl C X.env) fp) tg gt) (hcg : tGE CV W (own.map (·.2)) cg gt)
    (ht : ∀ (s : Shared) (H : Hp) (C : Addr) (cl : List (Str × Addr)) (fp : List Addr), PTs (X.blk s H scope (compEnvC scope cl C X.env) fp) ifs (tT CV W0 ct))
    (he : ∀ (s : Shared) (H : Hp) (C : Addr) (cl : List (Str × Addr)) (fp : List Addr), PE (X.blk s H scope (compEnvC scope cl C X.env) fp) elt (tE CV W0 ce)) (hs : ∀ x, foldedSetIterable iter X.env x = pure x := by intro _; rfl) :
    PE X (.ListComp elt [⟨tg, iter, ifs, 0⟩] scope pos) (tE CV W (eLcW (own.map (·.2)) cg src ct ce)) := by
  refine pe_mono (pe_lc hc hN hi ok hg ht he hs) fun σ H Q ⟨l, h, m, g, s, lr, p⟩ => ⟨l, h, m, g, s, lr, PostE.mono (PostE.bind p) fun g1 m1 h1 H1 v e1 s1 p1 J vs F rl f G D hD => ?_⟩
  obtain ⟨hu, q⟩ := unAll_of (P := fun r => PostE CV W σ g1 m1 H1 r fun g' m' _ H' v => ∀ x, R g' m' H' v x → Q x H') (fun z => z) _ p1
  obtain ⟨hl, q⟩ := lenOk_of rl q
  refine ⟨fun i k H => k = vs.length - i ∧ i ≤ vs.length ∧ AtL CV W _ F g1 m1 H1 σ cg ct ce (own.map (·.2)) D vs i H, ⟨vs.length, by simp, Nat.zero_le _, AtL.start G.s1 s1 hD ((lr.mono e1).wipe hu) f rl q⟩, ?_⟩
  rintro i k H ⟨rfl, hi, w⟩
  obtain ⟨_, _, _, g2, _, _, _, _, _, _, f2, _⟩ := id w
  by_cases hlt : i < vs.length
  · refine .inr ⟨G.go i g2 H f2 hlt, fun H' => AtL CV W _ F g1 m1 H1 σ cg ct ce (own.map (·.2)) D vs (i + 1) H', fun H' w' => ⟨vs.length - (i + 1), by omega, rfl, hlt, w'⟩, fun x H' y => ?_⟩
    obtain ⟨e, y2⟩ := G.yld i g2 H x H' f2 y
    subst e
    exact AtL.turn G.s1 G.s2 hD hcg hl (y2 hlt) w
  · have e : i = vs.length := by omega
    subst e
    obtain ⟨_, _, _, _, k, r⟩ := w.done s1 hD
    exact .inl ⟨G.stop _ g2 H f2 (Nat.le_refl _), k _ r⟩
end
end Rf

namespace Rf
open PySem L2
/-! ### targets that are tuples of names -/
def gNames : List Nat → TGs
  | [] => gNil
  | i :: is => gCons (gName i) (gNames is)
noncomputable def setAll {α : Type} (d : α) : List Nat → EV → LL → (LL → α) → α
  | [], xs, l, k => EV.rec (motive := fun _ => α) d (fun _ => d) (fun _ => d) (fun _ _ => d) (k l) (fun _ _ _ _ => d) (fun _ _ => d) (fun _ _ => d) (fun _ => d) (fun _ => d) xs
  | i :: is, xs, l, k => onCons d (fun x t => lsetK x d l i fun l' => setAll d is t l' k) xs
noncomputable def gT (is : List Nat) : CG := fun v _ l k => EV.rec (motive := fun _ => RS) .bad (fun _ => .bad) (fun _ => .bad) (fun _ _ => .bad) .bad (fun _ _ _ _ => .bad) (fun xs _ => setAll .bad is xs l k) (fun _ _ => .bad) (fun _ => .bad) (fun _ => .bad) v
noncomputable def gTE (is : List Nat) : CGE := fun v _ l k => EV.rec (motive := fun _ => RE) .bad (fun _ => .bad) (fun _ => .bad) (fun _ _ => .bad) .bad (fun _ _ _ _ => .bad) (fun xs _ => setAll .bad is xs l k) (fun _ _ => .bad) (fun _ => .bad) (fun _ => .bad) v
theorem setAll_of {α : Type} {d : α} {P : α → Prop} (hbad : ¬ P d) {g : Gm} {m : Nat} {H : Hp} {k : LL → α} : ∀ (is : List Nat) (e : EV) (vs : List V) (l : LL) (σ : L2.St) (Q : L2.St → Hp → Prop), RL g m H e vs → LR g m H l σ → P (setAll d is e l k) →
    vs.length = is.length ∧ ((∀ l' σ', LR g m H l' σ' → (∀ own : List Nat, (∀ i ∈ is, i ∈ own) → L2.wipe σ' own = L2.wipe σ own) → P (k l') → Q σ' H) → gNames is vs σ H Q)
  | [], e, vs, l, σ, Q, rl, lr, p => by
    cases vs with
    | nil =>
      have z := rl.nil_of
      subst z
      exact ⟨rfl, fun q => ⟨rfl, q l σ lr (fun _ _ => rfl) p⟩⟩
    | cons v vs =>
      obtain ⟨a, b, z, _, _⟩ := rl.cons_of
      subst z
      exact absurd p hbad
  | i :: is, e, vs, l, σ, Q, rl, lr, p => by
    cases vs with
    | nil =>
      have z := rl.nil_of
      subst z
      exact absurd p hbad
    | cons v vs =>
      obtain ⟨a, b, z, ra, rb⟩ := rl.cons_of
      subst z
      have p' : P (lsetK a d l i fun l' => setAll d is b l' k) := p
      rcases lsetK_eq a d l i (fun l' => setAll d is b l' k) with ⟨l', el, hn, ee⟩ | ee
      · rw [ee] at p'
        obtain ⟨h1, h2⟩ := setAll_of hbad is b vs l' (σ.set i (some v)) Q rb (lr.set el hn ra) p'
        refine ⟨by rw [List.length_cons, List.length_cons, h1], fun q => ⟨v, vs, rfl, h2 fun l2 σ2 lr2 hw p2 => q l2 σ2 lr2 (fun own ho => ?_) p2⟩⟩
        rw [hw own fun j hj => ho j (List.mem_cons_of_mem _ hj), wipe_set (ho i List.mem_cons_self)]
      · rw [ee] at p'; exact absurd p' hbad
section
variable {X : Cx} {CV : Nat → Value} {W : WX} {pos p p2 : Pos} {σ : L2.St} {g : Gm} {m : Nat} {h : Tr} {H : Hp} {K : KE} {a b : CE} {ea eb : Expr}
theorem tG_tup {Kf : PySem.W.Frag} (is : List Nat) {n : Nat} (hn : n = is.length) : tG CV W (gT is) (gTup Kf n (gNames is)) := fun g m h H l σ v x k D Q s lr rx p q => by
  cases v with
  | tup e =>
    obtain ⟨a, vs, ex, hv, _, rl⟩ := rx
    obtain ⟨h1, h2⟩ := setAll_of (P := fun r => PostS CV W g m H r D) (show ¬ PostS CV W g m H .bad D from fun z => z) is e vs l σ Q rl lr p
    exact ⟨a, vs, ex, SqT.of hv, by rw [hn]; exact h1, h2 fun l' σ' lr' _ p' => q l' σ' lr' p'⟩
  | non => exact p.elim
  | bl => exact p.elim
  | int => exact p.elim
  | str => exact p.elim
  | nil => exact p.elim
  | cons => exact p.elim
  | lst => exact p.elim
  | ref => exact p.elim
  | ch => exact p.elim
theorem tGE_tup {Kf : PySem.W.Frag} {own : List Nat} (is : List Nat) {n : Nat} (hn : n = is.length) (ho : ∀ i ∈ is, i ∈ own) : tGE CV W own (gTE is) (gTup Kf n (gNames is)) := fun g0 m0 H0 τ K g m h H l σ v x k Q s lr rx p q => by
  cases v with
  | tup e =>
    obtain ⟨a, vs, ex, hv, _, rl⟩ := rx
    obtain ⟨h1, h2⟩ := setAll_of (P := fun r => PostE CV W τ g0 m0 H0 r K) (show ¬ PostE CV W τ g0 m0 H0 .bad K from fun z => z) is e vs l σ Q rl lr p
    exact ⟨a, vs, ex, SqT.of hv, by rw [hn]; exact h1, h2 fun l' σ' lr' hw p' => q l' σ' lr' (hw own ho) p'⟩
  | non => exact p.elim
  | bl => exact p.elim
  | int => exact p.elim
  | str => exact p.elim
  | nil => exact p.elim
  | cons => exact p.elim
  | lst => exact p.elim
  | ref => exact p.elim
  | ch => exact p.elim
/-- target = value -/
noncomputable def sAsgG (cg : CG) (e : CE) : CS := fun l h m => bindES (e l h m) l fun v h m => cg v h l fun l => .nx l h m
theorem ds_asg {st : Stmt} {gt : TG} {cg : CG} (hcg : tG CV W cg gt) (hp : PS X st (tAsg (tE CV W a) gt)) : PS X st (tS CV W (sAsgG cg a)) :=
  ps_mono hp fun D σ H ⟨l, h, m, g, s, lr, p⟩ => ⟨l, h, m, g, s, lr, PostE.mono (PostS.bind lr p) fun g1 m1 h1 H1 v e1 s1 p1 x rx =>
    hcg g1 m1 h1 H1 l σ v x _ D _ s1 (lr.mono e1) rx p1 fun l' σ' lr' p' => p' g1 H1 σ' Ext.refl s1 lr'⟩
/-- name op= value -/
noncomputable def sAug (i : Nat) (f : EV → EV → Tr → Nat → RE) (e : CE) : CS := fun l h m => bindES (lgetK l i fun x => bindE (e l h m) fun y h m => f x y h m) l fun v h m => lsetK v .bad l i fun l => .nx l h m
theorem ds_aug {st : Stmt} {i : Nat} {f : EV → EV → Tr → Nat → RE} {ti : TIp} (hf : Op2 CV W f ti) (hp : PS X st (tAug i (tE CV W a) ti)) : PS X st (tS CV W (sAug i f a)) := ps_mono hp fun D σ H ⟨l, h, m, g, s, lr, p⟩ => by
  have p' := PostS.bind lr p
  rcases lgetK_eq l i (fun x => bindE (a l h m) fun y h m => f x y h m) with ⟨v, ev, ee⟩ | ee
  · rw [ee] at p'
    obtain ⟨x, ex, rx⟩ := lr.get i v ev
    refine ⟨x, ex, l, h, m, g, s, lr, PostE.mono (PostE.bind p') fun g1 m1 h1 H1 w e1 s1 p1 y ry => hf σ g1 m1 h1 H1 v w x y _ s1 (R.mono e1 rx) ry (PostE.mono p1 fun g2 m2 h2 H2 u e2 s2 p2 z rz => ?_)⟩
    rcases lsetK_eq u RS.bad l i (fun l => RS.nx l h2 m2) with ⟨l', el, hn, q⟩ | q
    · rw [q] at p2
      exact p2 g2 H2 _ Ext.refl s2 (((lr.mono e1).mono e2).set el hn rz)
    · rw [q] at p2; exact p2.elim
  · rw [ee] at p'; exact p'.elim
/-! ### try .. except X -/
noncomputable def noX (r : RS) : RS := RS.rec (motive := fun _ => RS) (fun l h m => .nx l h m) (fun v h m => .ret v h m) (fun l h m => .brk l h m) (fun l h m => .cnt l h m) (fun _ _ _ _ => .bad) .bad r
theorem noX_of {W' : WX} {r : RS} {D : Ends} (p : PostS CV W g m H (noX r) D) : PostS CV W' g m H r D := by
  cases r with
  | exc => exact p.elim
  | bad => exact p.elim
  | nx => exact p
  | ret => exact p
  | brk => exact p
  | cnt => exact p
noncomputable def sTry (ct : List (Nat × Bool)) (cb cs : CS) : CS := fun l h m => RS.rec (motive := fun _ => RS) (fun l h m => .nx l h m) (fun v h m => .ret v h m) (fun l h m => .brk l h m) (fun l h m => .cnt l h m)
  (fun c l h m => match ct.lookup c with | some true => noX (cs l h m) | some false => .exc c l h m | none => .bad) .bad (cb l h m)
theorem ds_try {st : Stmt} {C : Value} {ct : List (Nat × Bool)} {cb cs : CS} (hct : ∀ c b, ct.lookup c = some b → PySem.W.exmOne X.K (CV c) C = some b)
    (hp : PS X st (fun D σ H => tS CV (wOnly X.K C (fun _ _ _ => tS CV W0 cs) W D) cb D σ H)) : PS X st (tS CV W (sTry ct cb cs)) := ps_mono hp fun D σ H ⟨l, h, m, g, s, lr, p⟩ => by
  refine ⟨l, h, m, g, s, lr, ?_⟩
  have p' : PostS CV W g m H (RS.rec (motive := fun _ => RS) (fun l h m => .nx l h m) (fun v h m => .ret v h m) (fun l h m => .brk l h m) (fun l h m => .cnt l h m)
    (fun c l h m => match ct.lookup c with | some true => noX (cs l h m) | some false => .exc c l h m | none => .bad) .bad (cb l h m)) D := p
  cases z : cb l h m with
  | nx => rw [z] at p'; exact p'
  | ret => rw [z] at p'; exact p'
  | brk => rw [z] at p'; exact p'
  | cnt => rw [z] at p'; exact p'
  | bad => rw [z] at p'; exact p'
  | exc c l1 h1 m1 =>
    rw [z] at p'
    have p2 : PostS CV W g m H (match ct.lookup c with | some true => noX (cs l1 h1 m1) | some false => .exc c l1 h1 m1 | none => .bad) D := p'
    intro g1 H1 σ1 e1 s1 lr1
    cases y : ct.lookup c with
    | none => rw [y] at p2; exact p2.elim
    | some b =>
      refine ⟨b, hct c b y, fun hb a ha => ?_, fun hb => ?_⟩
      · subst hb
        rw [y] at p2
        exact ⟨l1, h1, m1, g1, s1, lr1, PostS.shift (noX_of p2) e1⟩
      · subst hb
        rw [y] at p2
        exact p2 g1 H1 σ1 e1 s1 lr1
end
end Rf

namespace Rf
open PySem L2
/-! ### items -/
noncomputable def enth (e : EV) : Nat → (EV → RE) → RE := EV.rec (motive := fun _ => Nat → (EV → RE) → RE) (fun _ _ => .bad) (fun _ _ _ => .bad) (fun _ _ _ => .bad) (fun _ _ _ _ => .bad) (fun _ _ => .bad)
  (fun x _ _ ih n k => Nat.rec (motive := fun _ => RE) (k x) (fun j _ => ih j k) n) (fun _ _ _ _ => .bad) (fun _ _ _ _ => .bad) (fun _ _ _ => .bad) (fun _ _ _ => .bad) e
theorem enth_of {P : RE → Prop} (hbad : ¬ P .bad) {g : Gm} {m : Nat} {H : Hp} {k : EV → RE} : ∀ (n : Nat) (e : EV) (vs : List V), RL g m H e vs → P (enth e n k) → ∃ v x, vs[n]? = some x ∧ R g m H v x ∧ P (k v)
  | n, e, [], rl, p => by
    have z := rl.nil_of
    subst z
    exact absurd p hbad
  | 0, e, x :: vs, rl, p => by
    obtain ⟨v, t, z, rv, _⟩ := rl.cons_of
    subst z
    exact ⟨v, x, rfl, rv, p⟩
  | n + 1, e, x :: vs, rl, p => by
    obtain ⟨v, t, z, _, rt⟩ := rl.cons_of
    subst z
    exact enth_of hbad n t vs rt p
noncomputable def atE (e : EV) (i : Int) (h : Tr) (m : Nat) : RE := Int.rec (motive := fun _ => RE) (fun n => enth e n fun v => .ok v h m) (fun n => revK e .nil fun r => enth r n fun v => .ok v h m) i
noncomputable def fIx : EV → EV → Tr → Nat → RE := fun v w h m => onInt .bad (fun i => seqK (fun e => atE e i h m) (fun e => atE e i h m) v h) w
section
variable {X : Cx} {CV : Nat → Value} {W : WX} {pos p p2 : Pos} {σ : L2.St} {g : Gm} {m : Nat} {h : Tr} {H : Hp} {K : KE} {a b : CE} {ea eb : Expr}
theorem atI_last' {vs : List V} {n : Nat} {x : V} (h : vs.reverse[n]? = some x) : atI vs (Int.negSucc n) = some x := by
  have hn : n < vs.length := by
    have := (List.getElem?_eq_some_iff.mp h).1
    rw [List.length_reverse] at this; exact this
  unfold atI ixN
  rw [if_neg (by omega), if_pos (by omega)]
  show vs[(Int.negSucc n + (vs.length : Int)).toNat]? = some x
  rw [List.getElem?_reverse hn] at h
  rw [show (Int.negSucc n + (vs.length : Int)).toNat = vs.length - 1 - n by omega]
  exact h
theorem atE_of {e : EV} {vs : List V} {i : Int} {Q : VK} (s : S g m h H) (rl : RL g m H e vs) (p : PostE CV W σ g m H (atE e i h m) fun g' m' _ H' v => ∀ x, R g' m' H' v x → Q x H') : ∃ x, atI vs i = some x ∧ Q x H := by
  cases i with
  | ofNat n =>
    obtain ⟨v, x, e1, rv, q⟩ := enth_of (P := fun r => PostE CV W σ g m H r fun g' m' _ H' v => ∀ x, R g' m' H' v x → Q x H') (fun z => z) n e vs rl p
    exact ⟨x, atI_nat e1, post_ok s q x rv⟩
  | negSucc n =>
    have p' : PostE CV W σ g m H (revK e .nil fun r => enth r n fun v => .ok v h m) _ := p
    obtain ⟨r, er, rr⟩ := revK_RL (α := RE) e vs .nil [] rl (show RL g m H .nil [] from rfl) fun r => enth r n fun v => .ok v h m
    rw [er] at p'
    rw [List.append_nil] at rr
    obtain ⟨v, x, e1, rv, q⟩ := enth_of (P := fun r => PostE CV W σ g m H r fun g' m' _ H' v => ∀ x, R g' m' H' v x → Q x H') (fun z => z) n r vs.reverse rr p'
    exact ⟨x, atI_last' e1, post_ok s q x rv⟩
theorem o_ix {Kf : PySem.W.Frag} : Op2 CV W fIx (fun x y H Q => rIxL Kf x y H Q ∨ rIxT Kf x y H Q) := fun σ g m h H v w x y Q s rx ry p => by
  obtain ⟨i, rfl, rfl, p⟩ := onInt_of ry p
  obtain ⟨a, vs, e, rfl, rl, q⟩ := seqK_of s rx p
  rcases q with ⟨hv, q⟩ | ⟨hv, hM, q⟩
  · obtain ⟨x, ex, qx⟩ := atE_of s rl q
    exact .inl ⟨a, vs, i, x, rfl, rfl, SqL.of hv, ex, qx⟩
  · obtain ⟨x, ex, qx⟩ := atE_of s rl q
    exact .inr ⟨a, vs, i, x, rfl, rfl, SqT.of hv, ex, qx⟩
theorem de_ixE (ha : PE X ea (tE CV W a)) (hb : PE X eb (tE CV W b)) (hs : PlainIx eb) : PE X (.Subscript ea eb pos) (tE CV W (eOp fIx a b)) := de_ix (IxR.or ix_list ix_tup) o_ix ha hb hs
/-! ### slices -/
noncomputable def dropE (e : EV) : Nat → EV := EV.rec (motive := fun _ => Nat → EV) (fun _ => .nil) (fun _ _ => .nil) (fun _ _ => .nil) (fun _ _ _ => .nil) (fun _ => .nil)
  (fun x xs _ ih n => Nat.rec (motive := fun _ => EV) (.cons x xs) (fun j _ => ih j) n) (fun _ _ _ => .nil) (fun _ _ _ => .nil) (fun _ _ => .nil) (fun _ _ => .nil) e
noncomputable def takeK {α : Type} (e : EV) : Nat → (EV → α) → α := EV.rec (motive := fun _ => Nat → (EV → α) → α) (fun _ k => k .nil) (fun _ _ k => k .nil) (fun _ _ k => k .nil) (fun _ _ _ k => k .nil) (fun _ k => k .nil)
  (fun x _ _ ih n k => Nat.rec (motive := fun _ => α) (k .nil) (fun j _ => ih j fun z => k (.cons x z)) n) (fun _ _ _ k => k .nil) (fun _ _ _ k => k .nil) (fun _ _ k => k .nil) (fun _ _ k => k .nil) e
theorem dropE_RL : ∀ (n : Nat) (e : EV) (vs : List V), RL g m H e vs → RL g m H (dropE e n) (vs.drop n)
  | n, e, [], rl => by
    have z := rl.nil_of
    subst z
    rw [List.drop_nil]; exact rfl
  | 0, e, x :: vs, rl => by
    obtain ⟨v, t, z, rv, rt⟩ := rl.cons_of
    subst z
    exact ⟨x, vs, rfl, rv, rt⟩
  | n + 1, e, x :: vs, rl => by
    obtain ⟨v, t, z, rv, rt⟩ := rl.cons_of
    subst z
    exact dropE_RL n t vs rt
theorem takeK_RL {α : Type} : ∀ (n : Nat) (e : EV) (vs : List V) (k : EV → α), RL g m H e vs → ∃ z, takeK e n k = k z ∧ RL g m H z (vs.take n)
  | n, e, [], k, rl => by
    have z := rl.nil_of
    subst z
    rw [List.take_nil]; exact ⟨.nil, rfl, rfl⟩
  | 0, e, x :: vs, k, rl => by
    obtain ⟨v, t, z, rv, rt⟩ := rl.cons_of
    subst z
    exact ⟨.nil, rfl, rfl⟩
  | n + 1, e, x :: vs, k, rl => by
    obtain ⟨v, t, z, rv, rt⟩ := rl.cons_of
    subst z
    obtain ⟨u, eu, ru⟩ := takeK_RL n t vs (fun z => k (.cons v z)) rt
    exact ⟨.cons v u, eu, x, _, rfl, rv, ru⟩
noncomputable def cutE (e : EV) (lo hi : Option Int) (k : EV → RE) : RE := lenK e 0 fun n => forceN (HT.sIx n 0 lo) fun i => forceN (Nat.sub (HT.sIx n n hi) i) fun j => takeK (dropE e i) j k
theorem cutE_RL {e : EV} {vs : List V} {lo hi : Option Int} (k : EV → RE) (rl : RL g m H e vs) : ∃ z, cutE e lo hi k = k z ∧ RL g m H z (cutV vs lo hi) := by
  unfold cutE
  rw [lenK_RL e vs rl, Nat.zero_add, forceN_eq, forceN_eq]
  exact takeK_RL _ _ _ k (dropE_RL _ e vs rl)
noncomputable def fSl : EV → Option Int → Option Int → Tr → Nat → RE := fun v lo hi h m => seqK (fun e => cutE e lo hi fun z => .ok (.lst z) h m) (fun e => cutE e lo hi fun z => .ok (.tup z) h m) v h
noncomputable def noP : LL → Tr → Nat → (Option Int → Tr → Nat → RE) → RE := fun _ h m k => k none h m
noncomputable def prt (c : CE) : LL → Tr → Nat → (Option Int → Tr → Nat → RE) → RE := fun l h m k => bindE (c l h m) fun v h m => onInt .bad (fun i => k (some i) h m) v
noncomputable def eSl (a : CE) (lo hi : LL → Tr → Nat → (Option Int → Tr → Nat → RE) → RE) : CE := fun l h m => bindE (a l h m) fun v h m => lo l h m fun i h m => hi l h m fun j h m => fSl v i j h m
def Prt (CV : Nat → Value) (W : WX) (c : LL → Tr → Nat → (Option Int → Tr → Nat → RE) → RE) (t : TO) : Prop := ∀ (σ : L2.St) (g : Gm) (m : Nat) (h : Tr) (H : Hp) (l : LL) (k : Option Int → Tr → Nat → RE) (K : KE) (Q : Option Int → Hp → Prop), S g m h H → LR g m H l σ → PostE CV W σ g m H (c l h m k) K →
  (∀ i g' m' h' H', Ext g m H g' m' H' → S g' m' h' H' → PostE CV W σ g' m' H' (k i h' m') K → Q i H') → t σ H Q
theorem prt_none : Prt CV W noP tNoPart := fun σ g m h H l k K Q s lr p q => q none g m h H Ext.refl s p
theorem prt_some : Prt CV W (prt a) (tPart (tE CV W a)) := fun σ g m h H l k K Q s lr p q => ⟨l, h, m, g, s, lr, PostE.mono (PostE.bind p) fun g1 m1 h1 H1 v e1 s1 p1 x rx => by
  obtain ⟨i, rfl, rfl, p⟩ := onInt_of rx p1
  exact ⟨i, rfl, q (some i) g1 m1 h1 H1 e1 s1 p⟩⟩
theorem de_sl {lo hi : Option Expr} {cl ch : LL → Tr → Nat → (Option Int → Tr → Nat → RE) → RE} {tl th : TO} (ha : PE X ea (tE CV W a)) (hl : PO X lo tl) (hh : PO X hi th) (kl : Prt CV W cl tl) (kh : Prt CV W ch th) :
    PE X (.Subscript ea (.Slice lo hi none p2) pos) (tE CV W (eSl a cl ch)) := by
  refine pe_mono (pe_slice (SlR.or sl_list sl_tupA) ha hl hh) fun σ H Q ⟨l, h, m, g, s, lr, p⟩ => ⟨l, h, m, g, s, lr, PostE.mono (PostE.bind p) fun g1 m1 h1 H1 v e1 s1 p1 x rx => ?_⟩
  refine kl σ g1 m1 h1 H1 l _ _ _ s1 (lr.mono e1) p1 fun i g2 m2 h2 H2 e2 s2 p2 => kh σ g2 m2 h2 H2 l _ _ _ s2 ((lr.mono e1).mono e2) p2 fun j g3 m3 h3 H3 e3 s3 p3 => ?_
  obtain ⟨a, vs, e, rfl, rl, q⟩ := seqK_of s3 (R.mono e3 (R.mono e2 rx)) p3
  rcases q with ⟨hv, q⟩ | ⟨hv, hM, q⟩
  · refine .inl ⟨a, vs, rfl, SqL.of hv, fun p hp => ?_⟩
    obtain ⟨z, ez, rz⟩ := cutE_RL (lo := i) (hi := j) (fun z => .ok (.lst z) h3 m3) rl
    rw [ez] at q
    exact post_new s3 hp q _ (R.lst s3 hp rz)
  · obtain ⟨z, ez, rz⟩ := cutE_RL (lo := i) (hi := j) (fun z => .ok (.tup z) h3 m3) rl
    rw [ez] at q
    refine .inr ⟨a, vs, rfl, SqT.of hv, fun w => ?_, fun _ p hp => post_new s3 hp q _ (R.tup s3 hp rz)⟩
    have ec : cutV vs i j = vs := by
      unfold cutV
      rw [w.1, w.2, List.drop_zero, Nat.sub_zero, List.take_length]
    rw [ec] at rz
    exact post_ok s3 q _ ⟨a, vs, rfl, hv, hM, rz⟩
/-! ### + -/
noncomputable def fAdd : EV → EV → Tr → Nat → RE := fun v w h m => EV.rec (motive := fun _ => RE) .bad (fun _ => .bad) (fun i => onInt .bad (fun j => okInt (Int.add i j) h m) w) (fun s _ => .bad) .bad (fun _ _ _ _ => .bad)
  (fun xs _ => seqK (fun _ => .bad) (fun ys => appK ys xs fun z => lenOk z (.ok (.tup z) h m)) w h) (fun xs _ => seqK (fun ys => appK ys xs fun z => lenOk z (.ok (.lst z) h m)) (fun _ => .bad) w h)
  (fun _ => seqK (fun xs => seqK (fun ys => appK ys xs fun z => lenOk z (.ok (.lst z) h m)) (fun _ => .bad) w h) (fun _ => .bad) v h) (fun _ => .bad) v
def rAddE (K : PySem.W.Frag) : R2 := fun x y H Q => rI0 (fun i j => .int (i + j)) x y H Q ∨ (rCat x y H Q ∨ rCatA K x y H Q)
theorem op_addE : OpR X (binaryOp .Add) (rAddE X.K) := OpR.or op_add (OpR.or op_cat op_catA)
theorem o_addL {w : EV} {y : V} {Q : VK} {pa : Addr} {vs : List V} {e : EV} (s : S g m h H) (hv : H pa = some (.lst vs)) (rl : RL g m H e vs) (ry : R g m H w y)
    (p : PostE CV W σ g m H (seqK (fun ys => appK ys e fun z => lenOk z (.ok (.lst z) h m)) (fun _ => .bad) w h) fun g' m' _ H' z => ∀ u, R g' m' H' z u → Q u H') : rCat (.ref pa) y H Q := by
  obtain ⟨b, ws, e2, rfl, rl2, q⟩ := seqK_of s ry p
  rcases q with ⟨hw, q⟩ | ⟨_, _, q⟩
  · obtain ⟨z, ez, rz⟩ := appK_RL (α := RE) rl2 e vs rl fun z => lenOk z (.ok (.lst z) h m)
    rw [ez] at q
    obtain ⟨hl, q⟩ := lenOk_of rz q
    rw [List.length_append] at hl
    exact ⟨pa, b, vs, ws, rfl, rfl, hv, hw, Nat.le_of_lt (small16 hl), fun p hp => post_new s hp q _ (R.lst s hp rz)⟩
  · exact q.elim
theorem o_add {Kf : PySem.W.Frag} : Op2 CV W fAdd (rAddE Kf) := fun σ g m h H v w x y Q s rx ry p => by
  cases v with
  | int i =>
    obtain ⟨j, rfl, rfl, p⟩ := onInt_of ry p
    rw [okInt_eq] at p
    exact .inl ⟨i, j, rx, rfl, post_ok s p _ rfl⟩
  | lst xs =>
    obtain ⟨a, vs, rfl, ha, _, rl⟩ := rx
    exact .inr (.inl (o_addL s ha rl ry p))
  | ref i =>
    obtain ⟨a, vs, e, rfl, rl, q⟩ := seqK_of (kL := fun xs => seqK (fun ys => appK ys xs fun z => lenOk z (.ok (.lst z) h m)) (fun _ => .bad) w h) (kT := fun _ => .bad) s rx p
    rcases q with ⟨ha, q⟩ | ⟨_, _, q⟩
    · exact .inr (.inl (o_addL s ha rl ry q))
    · exact q.elim
  | tup xs =>
    obtain ⟨a, vs, rfl, ha, na, rl⟩ := rx
    obtain ⟨b, ws, e2, rfl, rl2, q⟩ := seqK_of (kL := fun _ => .bad) (kT := fun ys => appK ys xs fun z => lenOk z (.ok (.tup z) h m)) s ry p
    rcases q with ⟨_, q⟩ | ⟨hb, nb, q⟩
    · exact q.elim
    · obtain ⟨z, ez, rz⟩ := appK_RL (α := RE) rl2 xs vs rl fun z => lenOk z (.ok (.tup z) h m)
      rw [ez] at q
      obtain ⟨hl, q⟩ := lenOk_of rz q
      rw [List.length_append] at hl
      refine .inr (.inr ⟨a, b, vs, ws, rfl, rfl, SqT.of ha, SqT.of hb, Nat.le_of_lt (small16 hl), fun e => ?_, fun _ e => ?_, fun _ _ p hp => post_new s hp q _ (R.tup s hp rz)⟩)
      · rw [e, List.nil_append] at rz
        exact post_ok s q _ ⟨b, ws, rfl, hb, nb, rz⟩
      · rw [e, List.append_nil] at rz
        exact post_ok s q _ ⟨a, vs, rfl, ha, na, rz⟩
  | non => exact p.elim
  | bl => exact p.elim
  | str => exact p.elim
  | nil => exact p.elim
  | cons => exact p.elim
  | ch => exact p.elim
/-! ### is None, all -/
noncomputable def fIsN : EV → Tr → Nat → RE := fun v h m => EV.rec (motive := fun _ => RE) (.ok (.bl true) h m) (fun _ => .ok (.bl false) h m) (fun _ => .ok (.bl false) h m) (fun _ _ => .ok (.bl false) h m) .bad (fun _ _ _ _ => .bad) (fun _ _ => .ok (.bl false) h m) (fun _ _ => .ok (.bl false) h m) (fun _ => .ok (.bl false) h m) (fun _ => .bad) v
noncomputable def fNoN : EV → Tr → Nat → RE := fun v h m => EV.rec (motive := fun _ => RE) (.ok (.bl false) h m) (fun _ => .ok (.bl true) h m) (fun _ => .ok (.bl true) h m) (fun _ _ => .ok (.bl true) h m) .bad (fun _ _ _ _ => .bad) (fun _ _ => .ok (.bl true) h m) (fun _ _ => .ok (.bl true) h m) (fun _ => .ok (.bl true) h m) (fun _ => .bad) v
theorem isN_of {v : EV} {x : V} (rx : R g m H v x) (p : PostE CV W σ g m H (fIsN v h m) K) : PostE CV W σ g m H (.ok (.bl (decide (x = .non))) h m) K := by
  cases v with
  | non => cases (show x = .non from rx); exact p
  | bl => cases (show x = _ from rx); exact p
  | int => cases (show x = _ from rx); exact p
  | str => obtain ⟨_, _, rfl⟩ := rx; exact p
  | tup => obtain ⟨_, _, rfl, _⟩ := rx; exact p
  | lst => obtain ⟨_, _, rfl, _⟩ := rx; exact p
  | ref => obtain ⟨_, rfl⟩ := rx; exact p
  | nil => exact p.elim
  | cons => exact p.elim
  | ch => exact p.elim
theorem noN_of {v : EV} {x : V} (rx : R g m H v x) (p : PostE CV W σ g m H (fNoN v h m) K) : PostE CV W σ g m H (.ok (.bl (!decide (x = .non))) h m) K := by
  cases v with
  | non => cases (show x = .non from rx); exact p
  | bl => cases (show x = _ from rx); exact p
  | int => cases (show x = _ from rx); exact p
  | str => obtain ⟨_, _, rfl⟩ := rx; exact p
  | tup => obtain ⟨_, _, rfl, _⟩ := rx; exact p
  | lst => obtain ⟨_, _, rfl, _⟩ := rx; exact p
  | ref => obtain ⟨_, rfl⟩ := rx; exact p
  | nil => exact p.elim
  | cons => exact p.elim
  | ch => exact p.elim
theorem tIsN_of {σ : L2.St} {H : Hp} {Q : VK} (t : tE CV W (eUn fIsN a) σ H Q) : tIsN (tE CV W a) σ H Q := by
  obtain ⟨l, h, m, g, s, lr, p⟩ := t
  exact ⟨l, h, m, g, s, lr, PostE.mono (PostE.bind p) fun g1 m1 h1 H1 v e1 s1 p1 x rx => post_ok s1 (isN_of rx p1) _ rfl⟩
theorem tNoN_of {σ : L2.St} {H : Hp} {Q : VK} (t : tE CV W (eUn fNoN a) σ H Q) : tNotN (tE CV W a) σ H Q := by
  obtain ⟨l, h, m, g, s, lr, p⟩ := t
  exact ⟨l, h, m, g, s, lr, PostE.mono (PostE.bind p) fun g1 m1 h1 H1 v e1 s1 p1 x rx => post_ok s1 (noN_of rx p1) _ rfl⟩
theorem tT_tB {c : CE} {t : TE} (k : ∀ σ H Q, tE CV W c σ H Q → t σ H Q) {σ : L2.St} {H : Hp} {Q : Bool → Hp → Prop} (q : tT CV W c σ H Q) : tB t σ H Q := by
  obtain ⟨l, h, m, g, s, lr, p⟩ := q
  exact k _ _ _ ⟨l, h, m, g, s, lr, PostE.mono p fun g1 m1 h1 H1 v e1 s1 p1 x rx => by
    obtain ⟨b, rfl, q⟩ := p1
    exact ⟨b, rx, q⟩⟩
theorem de_isN {j : Nat} (ha : PE X ea (tE CV W a)) : PE X (.Compare ea [.Is] [.Constant .none j p2] pos) (tE CV W (eUn fIsN a)) := pe_mono (pe_cmp (pc_isN ha)) fun _ _ _ => tIsN_of
theorem de_noN {j : Nat} (ha : PE X ea (tE CV W a)) : PE X (.Compare ea [.IsNot] [.Constant .none j p2] pos) (tE CV W (eUn fNoN a)) := pe_mono (pe_cmp (pc_notN ha)) fun _ _ _ => tNoN_of
theorem dt_isN {j : Nat} (ha : PE X ea (tE CV W a)) : PT X (.Compare ea [.Is] [.Constant .none j p2] pos) (tT CV W (eUn fIsN a)) := pt_mono (pt_cmp (pc_isN ha)) fun _ _ _ => tT_tB fun _ _ _ => tIsN_of
theorem dt_noN {j : Nat} (ha : PE X ea (tE CV W a)) : PT X (.Compare ea [.IsNot] [.Constant .none j p2] pos) (tT CV W (eUn fNoN a)) := pt_mono (pt_cmp (pc_notN ha)) fun _ _ _ => tT_tB fun _ _ _ => tNoN_of
/-- all of a list of truth values -/
noncomputable def allE (e : EV) : (Bool → RE) → RE := EV.rec (motive := fun _ => (Bool → RE) → RE) (fun _ => .bad) (fun _ _ => .bad) (fun _ _ => .bad) (fun _ _ _ => .bad) (fun k => k true)
  (fun x _ _ ih k => onBl .bad (fun b => ih fun r => k (andB b r)) x) (fun _ _ _ => .bad) (fun _ _ _ => .bad) (fun _ _ => .bad) (fun _ _ => .bad) e
theorem allE_of {P : RE → Prop} (hbad : ¬ P .bad) : ∀ (e : EV) (vs : List V) (k : Bool → RE), RL g m H e vs → P (allE e k) → ∃ bs : List Bool, vs = bs.map V.bl ∧ P (k (bs.all id))
  | e, [], k, rl, p => by
    have z := rl.nil_of
    subst z
    exact ⟨[], rfl, p⟩
  | e, x :: vs, k, rl, p => by
    obtain ⟨v, t, z, rv, rt⟩ := rl.cons_of
    subst z
    cases v with
    | bl b =>
      obtain ⟨bs, e1, q⟩ := allE_of hbad t vs (fun r => k (andB b r)) rt p
      refine ⟨b :: bs, by rw [List.map_cons, ← e1, show x = V.bl b from rv], ?_⟩
      rw [andB_eq] at q
      exact q
    | non => exact absurd p hbad
    | int => exact absurd p hbad
    | str => exact absurd p hbad
    | nil => exact absurd p hbad
    | cons => exact absurd p hbad
    | tup => exact absurd p hbad
    | lst => exact absurd p hbad
    | ref => exact absurd p hbad
    | ch => exact absurd p hbad
noncomputable def fAll : EV → Tr → Nat → RE := fun v h m => onCons .bad (fun x _ => seqK (fun e => allE e fun b => okB b h m) (fun _ => .bad) x h) v
theorem o_all {Kf : PySem.W.Frag} : OpN CV W (fun v h m => arK (fAll v h m) 1 v) (rAll Kf) := fun σ g m h H v xs Q s rl q => by
  obtain ⟨hn, q⟩ := arK_of (P := fun r => PostE CV W σ g m H r fun g' m' _ H' z => ∀ u, R g' m' H' z u → Q u H') (fun z => z) 1 v xs rl q
  obtain ⟨x, t, rfl, q⟩ := onCons_of q
  obtain ⟨y, ys, rfl, ry, rt⟩ := rl
  cases ys with
  | cons z zs => cases hn
  | nil =>
    obtain ⟨a, vs, e, rfl, re, q⟩ := seqK_of s ry q
    rcases q with ⟨hv, q⟩ | ⟨_, _, q⟩
    · obtain ⟨bs, eb, q⟩ := allE_of (P := fun r => PostE CV W σ g m H r fun g' m' _ H' z => ∀ u, R g' m' H' z u → Q u H') (fun z => z) e vs _ re q
      rw [okB_eq] at q
      exact ⟨a, bs, rfl, by rw [← eb]; exact SqL.of hv, post_ok s q _ rfl⟩
    · exact q.elim
end
end Rf

namespace Rf
open PySem L2
section
variable {X : Cx} {CV : Nat → Value} {W : WX} {pos p p2 : Pos} {σ : L2.St} {g : Gm} {m : Nat} {h : Tr} {H : Hp} {K : KE} {a b : CE} {ea eb : Expr} {tg iter : Expr}
/-! ### a text, sign by sign -/
noncomputable def sgn (s : EV) : (EV → RE) → RE := EV.rec (motive := fun _ => (EV → RE) → RE) (fun _ => .bad) (fun _ _ => .bad) (fun _ _ => .bad) (fun _ _ _ => .bad) (fun k => k .nil)
  (fun x _ _ ih k => ih fun z => k (.cons (.str (.cons x .nil)) z)) (fun _ _ _ => .bad) (fun _ _ _ => .bad) (fun _ _ => .bad) (fun _ _ => .bad) s
noncomputable def cTxt (c : CE) : CE := fun l h m => bindE (c l h m) fun v h m => EV.rec (motive := fun _ => RE) .bad (fun _ => .bad) (fun _ => .bad) (fun s _ => sgn s fun z => .ok z h m) .bad (fun _ _ _ _ => .bad) (fun _ _ => .bad) (fun _ _ => .bad) (fun _ => .bad) (fun _ => .bad) v
theorem sgn_eq : ∀ (s : EV) (l : List Nat), codes s = some l → ∀ k : EV → RE, ∃ z, sgn s k = k z ∧ RL g m H z (l.map fun c => V.str ⟨#[c]⟩)
  | .nil, l, e, k => by cases (show some [] = some l from e); exact ⟨.nil, rfl, rfl⟩
  | .cons (.ch c) t, l, e, k => by
    obtain ⟨r, rfl, q, hc⟩ := codes_cons e
    obtain ⟨z, ez, rz⟩ := sgn_eq t r q fun z => k (.cons (.str (.cons (.ch c) .nil)) z)
    refine ⟨_, ez, _, _, rfl, ⟨[c], ?_, rfl⟩, rz⟩
    show (if c < 1114112 then (codes .nil).map (c :: ·) else none) = some [c]
    rw [if_pos hc]; rfl
  | .cons .non _, _, e, _ => by cases e
  | .cons (.bl _) _, _, e, _ => by cases e
  | .cons (.int _) _, _, e, _ => by cases e
  | .cons (.str _) _, _, e, _ => by cases e
  | .cons .nil _, _, e, _ => by cases e
  | .cons (.cons _ _) _, _, e, _ => by cases e
  | .cons (.tup _) _, _, e, _ => by cases e
  | .cons (.lst _) _, _, e, _ => by cases e
  | .cons (.ref _) _, _, e, _ => by cases e
  | .non, _, e, _ => by cases e
  | .bl _, _, e, _ => by cases e
  | .int _, _, e, _ => by cases e
  | .str _, _, e, _ => by cases e
  | .tup _, _, e, _ => by cases e
  | .lst _, _, e, _ => by cases e
  | .ref _, _, e, _ => by cases e
  | .ch _, _, e, _ => by cases e
theorem gives_txt {l : List Nat} : Gives (Its ⟨l.toArray⟩) (l.map fun c => V.str ⟨#[c]⟩) (fun _ _ => True) where
  s1 := stays_yes
  s2 := stays2_yes
  go := fun i g H f hi => by rw [List.length_map] at hi; show i < l.toArray.size; simpa using hi
  yld := fun i g H x H' f y => ⟨y.1, fun hi => by
    obtain ⟨_, c, h1, h2⟩ := y
    have h1' : l[i]? = some c := by simpa using h1
    rw [List.getElem?_map, h1', h2]; rfl⟩
  stop := fun i g H f hi => by rw [List.length_map] at hi; show l.toArray.size ≤ i; simpa using hi
theorem dp_txt {c : CE} (hi : PE X iter (tE CV W c)) : PI X tg iter (tW CV W (cTxt c)) := by
  refine pi_mono (pi_str hi) fun σ H Rr ⟨l, h, m, g, s, lr, p⟩ => ⟨l, h, m, g, s, lr, PostE.mono (PostE.bind p) fun g1 m1 h1 H1 v e1 s1 p1 x rx => ?_⟩
  cases v with
  | str s =>
    obtain ⟨k, hk, rfl⟩ := rx
    have p2 : PostE CV W σ g1 m1 H1 (sgn s fun z => .ok z h1 m1) _ := p1
    obtain ⟨z, ez, rz⟩ := sgn_eq (g := g1) (m := m1) (H := H1) s k hk fun z => .ok z h1 m1
    rw [ez] at p2
    exact ⟨_, rfl, post_ok s1 p2 _ _ _ rz trivial gives_txt⟩
  | non => exact p1.elim
  | bl => exact p1.elim
  | int => exact p1.elim
  | nil => exact p1.elim
  | cons => exact p1.elim
  | tup => exact p1.elim
  | lst => exact p1.elim
  | ref => exact p1.elim
  | ch => exact p1.elim
/-! ### the order of texts -/
noncomputable def ltS (x : EV) : EV → Bool := EV.rec (motive := fun _ => EV → Bool) (fun _ => false) (fun _ _ => false) (fun _ _ => false) (fun _ _ _ => false)
  (fun y => EV.rec (motive := fun _ => Bool) false (fun _ => false) (fun _ => false) (fun _ _ => false) false (fun _ _ _ _ => true) (fun _ _ => false) (fun _ _ => false) (fun _ => false) (fun _ => false) y)
  (fun x _ _ ih y => onCons false (fun b t => EV.rec (motive := fun _ => Bool) false (fun _ => false) (fun _ => false) (fun _ _ => false) false (fun _ _ _ _ => false) (fun _ _ => false) (fun _ _ => false) (fun _ => false)
    (fun c => EV.rec (motive := fun _ => Bool) false (fun _ => false) (fun _ => false) (fun _ _ => false) false (fun _ _ _ _ => false) (fun _ _ => false) (fun _ _ => false) (fun _ => false)
      (fun d => Bool.rec (motive := fun _ => Bool) (Bool.rec (motive := fun _ => Bool) false (ih t) (Nat.beq c d)) true (Nat.blt c d)) b) x) y)
  (fun _ _ _ => false) (fun _ _ _ => false) (fun _ _ => false) (fun _ _ => false) x
theorem ltS_eq : ∀ (x y : EV) (l k : List Nat), codes x = some l → codes y = some k → ltS x y = decide (l < k)
  | .nil, y, l, k, e1, e2 => by
    cases (show some [] = some l from e1)
    cases y with
    | nil => cases (show some [] = some k from e2); rfl
    | cons c t =>
      cases c with
      | ch c =>
        obtain ⟨r, rfl, _, _⟩ := codes_cons e2
        exact (decide_eq_true (List.nil_lt_cons c r)).symm
      | _ => (cases e2)
    | _ => (cases e2)
  | .cons (.ch a) t, y, l, k, e1, e2 => by
    obtain ⟨l1, rfl, q1, _⟩ := codes_cons e1
    cases y with
    | nil => cases (show some [] = some k from e2); rfl
    | cons c u =>
      cases c with
      | ch c =>
        obtain ⟨r, rfl, q, _⟩ := codes_cons e2
        show Bool.rec (motive := fun _ => Bool) (Bool.rec (motive := fun _ => Bool) false (ltS t u) (Nat.beq a c)) true (Nat.blt a c) = _
        have ih := ltS_eq t u l1 r q1 q
        cases z : Nat.blt a c with
        | true =>
          rw [Nat.blt_eq] at z
          exact (decide_eq_true (List.cons_lt_cons_iff.mpr (.inl z))).symm
        | false =>
          have z' : ¬ a < c := fun w => by rw [← Nat.blt_eq, z] at w; cases w
          cases w : Nat.beq a c with
          | true =>
            have w' := Nat.eq_of_beq_eq_true w
            show ltS t u = _
            rw [ih, Bool.eq_iff_iff, decide_eq_true_iff, decide_eq_true_iff, List.cons_lt_cons_iff]
            exact ⟨fun h => .inr ⟨w', h⟩, fun h => h.elim (fun h => absurd h z') fun h => h.2⟩
          | false =>
            have w' : a ≠ c := fun e => by rw [e, Nat.beq_refl] at w; cases w
            show false = _
            refine (decide_eq_false fun h => ?_).symm
            rw [List.cons_lt_cons_iff] at h
            exact h.elim z' fun h => w' h.1
      | _ => (cases e2)
    | _ => (cases e2)
  | .cons .non _, _, _, _, e1, _ => by cases e1
  | .cons (.bl _) _, _, _, _, e1, _ => by cases e1
  | .cons (.int _) _, _, _, _, e1, _ => by cases e1
  | .cons (.str _) _, _, _, _, e1, _ => by cases e1
  | .cons .nil _, _, _, _, e1, _ => by cases e1
  | .cons (.cons _ _) _, _, _, _, e1, _ => by cases e1
  | .cons (.tup _) _, _, _, _, e1, _ => by cases e1
  | .cons (.lst _) _, _, _, _, e1, _ => by cases e1
  | .cons (.ref _) _, _, _, _, e1, _ => by cases e1
  | .non, _, _, _, e1, _ => by cases e1
  | .bl _, _, _, _, e1, _ => by cases e1
  | .int _, _, _, _, e1, _ => by cases e1
  | .str _, _, _, _, e1, _ => by cases e1
  | .tup _, _, _, _, e1, _ => by cases e1
  | .lst _, _, _, _, e1, _ => by cases e1
  | .ref _, _, _, _, e1, _ => by cases e1
  | .ch _, _, _, _, e1, _ => by cases e1
/-- numbers or texts -/
noncomputable def fCmp (fi : Int → Int → Bool) (fs : EV → EV → Bool) : EV → EV → Tr → Nat → RE := fun v w h m => EV.rec (motive := fun _ => RE) .bad (fun _ => .bad) (fun i => onInt .bad (fun j => okB (fi i j) h m) w)
  (fun s _ => EV.rec (motive := fun _ => RE) .bad (fun _ => .bad) (fun _ => .bad) (fun t _ => okB (fs s t) h m) .bad (fun _ _ _ _ => .bad) (fun _ _ => .bad) (fun _ _ => .bad) (fun _ => .bad) (fun _ => .bad) w) .bad (fun _ _ _ _ => .bad) (fun _ _ => .bad) (fun _ _ => .bad) (fun _ => .bad) (fun _ => .bad) v
theorem o_cmp {fi fi' : Int → Int → Bool} {fs : EV → EV → Bool} {fs' : Str → Str → Bool} (hi : ∀ i j, fi i j = fi' i j) (hs : ∀ x y l k, codes x = some l → codes y = some k → fs x y = fs' ⟨l.toArray⟩ ⟨k.toArray⟩) :
    Op2 CV W (fCmp fi fs) (fun x y H Q => rI0 (fun i j => .bl (fi' i j)) x y H Q ∨ (∃ i j, x = .str i ∧ y = .str j ∧ Q (.bl (fs' i j)) H)) := fun σ g m h H v w x y Q s rx ry p => by
  cases v with
  | int i =>
    obtain ⟨j, rfl, rfl, p⟩ := onInt_of ry p
    rw [okB_eq] at p
    exact .inl ⟨i, j, rx, rfl, post_ok s p _ (by rw [hi]; rfl)⟩
  | str c =>
    obtain ⟨l, hl, rfl⟩ := rx
    cases w with
    | str d =>
      obtain ⟨k, hk, rfl⟩ := ry
      have p' : PostE CV W σ g m H (okB (fs c d) h m) _ := p
      rw [okB_eq] at p'
      exact .inr ⟨_, _, rfl, rfl, post_ok s p' _ (by rw [hs c d l k hl hk]; rfl)⟩
    | non => exact p.elim
    | bl => exact p.elim
    | int => exact p.elim
    | nil => exact p.elim
    | cons => exact p.elim
    | tup => exact p.elim
    | lst => exact p.elim
    | ref => exact p.elim
    | ch => exact p.elim
  | non => exact p.elim
  | bl => exact p.elim
  | nil => exact p.elim
  | cons => exact p.elim
  | tup => exact p.elim
  | lst => exact p.elim
  | ref => exact p.elim
  | ch => exact p.elim
noncomputable abbrev cLt := fCmp ltI ltS
noncomputable abbrev cLe := fCmp (fun i j => !ltI j i) (fun x y => !ltS y x)
theorem or_lt : OpR X (compareOp .Lt) (fun x y H Q => rI0 (fun i j => .bl (decide (i < j))) x y H Q ∨ (∃ i j : Str, x = .str i ∧ y = .str j ∧ Q (.bl (decide (i.cps.toList < j.cps.toList))) H)) := OpR.or op_lt op_lt_str
theorem or_le : OpR X (compareOp .LtE) (fun x y H Q => rI0 (fun i j => .bl (decide (i ≤ j))) x y H Q ∨ (∃ i j : Str, x = .str i ∧ y = .str j ∧ Q (.bl (!decide (j.cps.toList < i.cps.toList))) H)) := OpR.or op_le op_le_str
theorem oc_lt : Op2 CV W cLt (fun x y H Q => rI0 (fun i j => .bl (decide (i < j))) x y H Q ∨ (∃ i j : Str, x = .str i ∧ y = .str j ∧ Q (.bl (decide (i.cps.toList < j.cps.toList))) H)) := o_cmp ltI_eq fun x y l k h1 h2 => ltS_eq x y l k h1 h2
theorem oc_le : Op2 CV W cLe (fun x y H Q => rI0 (fun i j => .bl (decide (i ≤ j))) x y H Q ∨ (∃ i j : Str, x = .str i ∧ y = .str j ∧ Q (.bl (!decide (j.cps.toList < i.cps.toList))) H)) := o_cmp (fun i j => by
  rw [ltI_eq]
  by_cases h : i ≤ j
  · rw [decide_eq_true h, decide_eq_false (by omega)]; rfl
  · rw [decide_eq_false h, decide_eq_true (by omega)]; rfl) fun x y l k h1 h2 => by rw [ltS_eq y x k l h2 h1]
end
end Rf

/-! an own error whose __init__ calls super's and keeps its argument -/
namespace XV
open PySem PySem.Spec PySem.Calls PyProof.Rows PySem.W
abbrev iniParams : Arguments := {
  posonlyargs := [],
  args := [{ arg := "self", annotation := none, pos := ⟨6, 17, 6, 21⟩ : PySem.Arg }, { arg := "line", annotation := none, pos := ⟨6, 23, 6, 27⟩ : PySem.Arg }],
  vararg := none, kwonlyargs := [], kw_defaults := [], kwarg := none, defaults := [] : PySem.Arguments }
abbrev iniScope : Scope := {
  kind := PySem.ScopeKind.function,
  names := [(PySem.Str.ofString "self", PySem.NameKind.local), (PySem.Str.ofString "line", PySem.NameKind.local), (PySem.Str.ofString "__class__", PySem.NameKind.free), (PySem.Str.ofString "super", PySem.NameKind.globalImplicit)],
  isGenerator := false, isCoroutine := false, more := [] : PySem.Scope }
abbrev iniArg : Expr := .JoinedStr [.Constant (.str "line ") 0 ⟨7, 27, 7, 32⟩, .FormattedValue (.Name "line" ⟨7, 33, 7, 37⟩) (-1) none ⟨7, 32, 7, 38⟩, .Constant (.str " cannot be read") 0 ⟨7, 38, 7, 53⟩] ⟨7, 25, 7, 54⟩
abbrev iniBody : List Stmt := [
  .Expr (.Call (.Attribute (.Call (.Name "super" ⟨7, 8, 7, 13⟩) [] [] ⟨7, 8, 7, 15⟩) "__init__" ⟨7, 8, 7, 24⟩) [iniArg] [] ⟨7, 8, 7, 55⟩) ⟨7, 8, 7, 55⟩,
  .Assign [.Attribute (.Name "self" ⟨8, 8, 8, 12⟩) "line" ⟨8, 8, 8, 17⟩] (.Name "line" ⟨8, 20, 8, 24⟩) ⟨8, 8, 8, 24⟩]
theorem ns_but {h h' : Heap} {L x : Addr} {m : Str → Option Value} (n : h.Ns L m) (ne : L ≠ x) (k : ∀ b o, b ≠ x → h.get? b = some o → h'.get? b = some o) : h'.Ns L m := by
  obtain ⟨oL, es, ep, hL, r⟩ := n
  exact ⟨oL, es, ep, k _ _ ne hL, r⟩
theorem in_but {K : Frag} {h h' : Heap} {x : Addr} (X : K.In h) (nx : ∀ o, K.lookup x ≠ some o) (k : ∀ b o, b ≠ x → h.get? b = some o → h'.get? b = some o) : K.In h' := fun b o e =>
  k b o (fun z => nx o (by rw [← z]; exact e)) (X b o e)
section
variable {prog : Program} {w : World} {A : Around} {R : Result → Shared → Prop} {hp : Heap} {g : Array GenState} {d : Drawn} {t : Nat} {os : OsState}
theorem init_run {K : Frag} {mgv mb : Str → Option Value} {fI cc cda C x t0 N : Addr} {i : Int} {tk : Tok} {oc ct kV doc pm ccl cl : Value} {od an cdd cld dd : Option Addr} {osl ccs csl : Array (Option Value)} {vs : Array Value} {file nm q qual : Str} {tf : Tok}
    {bs bm : List Value} {sn : List Str} {sub : List Value} {ab : Bool} {col : Option Bool} {k0 k1 k2 k3 k5 : Option Value}
    (X : K.In hp) (gm : hp.Ns mainGlobals mgv) (hmiss : mgv "super" = none) (gb : hp.Ns builtinsNs mb) (hmb : mb "super" = some (.type "super")) (hroom : A.depth < recursionLimit) (hlim : hp.NoLimit)
    (lk : K.lookup fI = some ⟨oc, od, .func (ksFn "__init__" qual iniParams iniBody iniScope .none kV doc pm an (.ref cda) ct cc), osl⟩) (hcd : codeIn K (.ref cda) qual = true)
    (hcode : K.lookup cda = some ⟨ccl, cdd, .fields vs, ccs⟩) (hvs : vs[2]? = some (.str file tf)) (hfile : ((prog.main.file : Str) == file) = true) (htop : (prog.main.scope.names.lookup ("super" : Str)).isSome = false)
    (hcell : K.lookup cc = some ⟨cl, cld, .cell (some (.ref C)), csl⟩)
    (hC : K.lookup C = some (excClassObj nm q C N bs bm true sn sub ab col dd k0 k1 k2 k3 k5 "ValueError.__new__")) (hbm : PySem.HandSPX.refsVE bm = true)
    (hsa : findIn K (.ref C) "__setattr__" = some (some (.builtin "object.__setattr__"))) (hsub : mroIn K C (.ref C) = some true) (ho : nsIn K cStatics "thirdparty.any" = some none)
    (hal : ks_superIn K C C "__init__" = some (some (.builtin "ValueError.__init__"))) (hB : subIn K (.ref C) (.type "ValueError") = some true) (hno : findIn K (.ref C) "line" = some none)
    (hx : hp.get? x = some (PySem.HandSPX.excO C t0)) (hxK : ∀ o, K.lookup x ≠ some o)
    (hi : i.natAbs.log2 < 1920) (l1 : (Str.empty ++ ("line " : Str)).length ≤ sizeLine) (l2 : (Str.empty ++ ("line " : Str) ++ (toString i : Str)).length ≤ sizeLine) (l3 : (Str.empty ++ ("line " : Str) ++ (toString i : Str) ++ (" cannot be read" : Str)).length ≤ sizeLine)
    (hq : ∀ h' tk' dx t1, (∀ b o, b ≠ x → hp.get? b = some o → h'.get? b = some o) → hp.objs.size ≤ dx → dx ≠ x → h'.get? x = some (eob C t1 (some dx)) →
      h'.Ns1 dx (fun y => if y = ("line" : Str) then some (.int i tk) else none) → R (.ok (.ret .none)) ⟨h', g, d, tk', os⟩) :
    codeAny (model prog w) A (.call (.ref fI) ⟨[.ref x, .int i tk], []⟩) R ⟨hp, g, d, t, os⟩ := by
  refine ks_codeAny_call_defAt (body := iniBody) (binds := [("self", .ref x), ("line", .int i tk)]) hroom (X _ _ lk) rfl hlim (codeRec_of X hcd) rfl (BindsTo.of_eq rfl) (show ∀ x ∈ iniScope.names, x.2 ≠ .cell by decide) (locs rfl) (fun h1 hns kk1 => ?_)
  have X1 := X.keeps kk1
  have hLx : hp.objs.size ≠ x := Nat.ne_of_gt (Heap.lt_size hx)
  obtain ⟨cdC, hcl, hcm, hcd2⟩ : ∃ cd : ClassData, clsIn K C = some cd ∧ cd.mro = .ref C :: bm ∧ cd.hasDict = true := by unfold clsIn; rw [hC]; exact ⟨_, rfl, rfl, rfl⟩
  have hD1 := X1 _ _ hC
  refine ks_wpAt_execs_cons (ks_wpAt_Expr_any (ks_wpAt_MethodCall ?_))
  refine ks_wpAt_super_base (by rfl) (by rfl) (by decide) rfl (X1 _ _ lk) rfl rfl rfl (X1 _ _ hcode) rfl hvs hfile htop ?_
  refine ks_loadName_global (by rfl) (by rfl) (loadGlobal_builtin (gm.keeps kk1) hmiss (gb.keeps kk1) hmb ⟨rfl, ?_⟩)
  refine wpAny_loadName_free (by rfl) (by rfl) (by rfl) ⟨_, X1 _ _ hcell, rfl⟩ ?_
  refine wpAny_loadName_local (by rfl) (by rfl) hns (by rfl) ?_
  refine ks_wpAny_isType_cls hD1 rfl ⟨rfl, ?_⟩
  refine ks_wpAny_call_super hD1 rfl (kk1 _ _ hx) rfl (fun c e => nomatch e) (looks_mroIn X1 hsub) (fun h2 e2 kk2 => ?_)
  have X2 := X1.keeps kk2
  have hx2 := kk2 _ _ (kk1 _ _ hx)
  have I2 : InstAt h2 x (PySem.HandSPX.excO C t0) C none := ⟨hx2, rfl, rfl, trivial⟩
  have hal2 : alongIn K "__init__" ((cdC.mro.dropWhile (· != .ref C)).drop 1) = some (some (.builtin "ValueError.__init__")) := by
    unfold ks_superIn at hal
    rw [hcl] at hal
    exact hal
  refine kxs_getMethod kxs_ValueError e2 (looks_opaque X2 ho) (l₀ := cdC.mro) (fun A Q E s k q => wpAny_bind ((looks_clsIn X2 hcl) A _ E s k (wpAny_pure q))) rfl X2 hal2 (I2.type.andThen (looks_subIn X2 hB)) (ks_ne X2 I2 hcl) (by decide) ?_
  have hu3 : (h2.push (kxs_mw "ValueError.__init__" x)).get? h2.objs.size = some (kxs_mw "ValueError.__init__" x) := Heap.get?_push_at rfl rfl
  have kk3 : ∀ b o, h2.get? b = some o → (h2.push (kxs_mw "ValueError.__init__" x)).get? b = some o := fun b o e => Heap.get?_push_of_some _ e
  have hns3 := (hns.keeps kk2).keeps kk3
  refine kxs_callWith (i := "ValueError.__init__") (x := x) (by rfl) (evalArgs_plain ?_)
  show wpAny _ _ (spliced ((false, eval iniArg _) :: backTo _ (starEach [] _))) _ _ _
  refine Calls.spliced_cons (wpAny_JoinedStr ?_)
  refine wpAny_Constant_str ⟨_, _, rfl, l1, ?_⟩
  refine wpAny_FormattedValue_plain (wpAny_Name (wpAny_loadName_local (by rfl) (by rfl) hns3 (by rfl) ?_) (by decide))
  refine wpAny_formatField_int hi ⟨_, _, rfl, l2, ?_⟩
  refine wpAny_Constant_str ⟨_, _, rfl, l3, ?_⟩
  refine ⟨l3, ?_⟩
  refine Calls.spliced_nil ⟨hu3, ?_⟩
  have X3 := X2.keeps kk3
  have hx3 := kk3 _ _ hx2
  refine wpAny_call (codeAny_of_tree ?_)
  show wpAny _ _ (callAny (.ref h2.objs.size) ⟨[_], []⟩) _ _ _
  simp only [callAny]
  refine wpAny_bind (wpAny_load hu3 ?_)
  simp only [kxs_mw, show (Value.type "method-wrapper" == Value.type "method" || Value.type "method-wrapper" == Value.type "builtin_function_or_method" || Value.type "method-wrapper" == Value.type "method-wrapper") = true by decide, if_true]
  refine KFB.if_so (by decide) ?_
  refine wpAny_bind (check_bound_init F.excBase_ValueError.toExcCallFacts (X3 _ _ hC) hx3 rfl ?_)
  refine wpAny_bind (wpAny_pure (wpAny_pure ?_))
  refine ⟨plainId_quiet F.excBase_ValueError.init.plain _, codeAny_builtin F.excBase_ValueError.initEntry ?_⟩
  refine exc_init_tree (cls := .ref C) (t0 := t0) (dv := none) (c2 := .none) (c3 := .none) (b4 := .bool false) hx3 (by show 1 ≤ sizeLine; rw [sizeLine_eq]; omega) (fun h4 kk4 hx4 ht4 => ?_)
  have kkA : ∀ b o, b ≠ x → hp.get? b = some o → h4.get? b = some o := fun b o hb e => kk4 b o hb (kk3 _ _ (kk2 _ _ (kk1 _ _ e)))
  have X4 : K.In h4 := in_but X hxK kkA
  have hns4 := ns_but hns3 hLx kk4
  refine ks_wpAt_execs_cons (ks_wpAt_Assign_Attr (PySem.wpAt_of_wpAny ?_))
  refine wpAny_Name (wpAny_loadName_local (by rfl) (by rfl) hns4 (by rfl) ?_) (by decide)
  refine wpAny_Name (wpAny_loadName_local (by rfl) (by rfl) hns4 (by rfl) ?_) (by decide)
  refine set_plain X4 (ox := PySem.HandSPX.excO C (h2.push (kxs_mw "ValueError.__init__" x)).objs.size) (od := none) ⟨hx4, rfl, rfl, trivial⟩ hsa ?_
  refine PySem.HandSPX.exc_osa X4 hx4 hcl (by rw [hcm]; exact hbm) hcd2 hno (fun h5 tk' dx k5 dn dne hx5 hn5 => ?_)
  have hxs : hp.objs.size ≤ h4.objs.size := by
    obtain ⟨oL, _, _, hL, _⟩ := hns4
    exact Nat.le_of_lt (Heap.lt_size hL)
  refine PySem.wpAt_of_wpAny (wpAny_execs_nil ?_)
  exact hq h5 tk' dx _ (fun b o hb e => k5 b o hb (kkA b o hb e)) (Nat.le_trans hxs dn) dne hx5 hn5
end
end XV

namespace XV
open PySem PySem.Spec PyProof.Rows L2
/-- what the written part says of such a class and its __init__ -/
structure IC (K : PySem.W.Frag) (prog : Program) (C fI : Addr) : Prop where
  ox : OexC K C
  ini : ∃ (oc ct kV doc pm ccl cl : Value) (od an cdd cld : Option Addr) (osl ccs csl : Array (Option Value)) (vs : Array Value) (file qual : Str) (tf : Tok) (cc cda : Addr),
    K.lookup fI = some ⟨oc, od, .func (PySem.W.ksFn "__init__" qual iniParams iniBody iniScope .none kV doc pm an (.ref cda) ct cc), osl⟩ ∧ PySem.W.codeIn K (.ref cda) qual = true ∧
    K.lookup cda = some ⟨ccl, cdd, .fields vs, ccs⟩ ∧ vs[2]? = some (.str file tf) ∧ ((prog.main.file : Str) == file) = true ∧ K.lookup cc = some ⟨cl, cld, .cell (some (.ref C)), csl⟩
  top : (prog.main.scope.names.lookup ("super" : Str)).isSome = false
  sub : PySem.W.mroIn K C (.ref C) = some true
  opq : PySem.W.nsIn K cStatics "thirdparty.any" = some none
  sup : PySem.W.ks_superIn K C C "__init__" = some (some (.builtin "ValueError.__init__"))
  isV : PySem.W.subIn K (.ref C) (.type "ValueError") = some true
  nof : PySem.W.findIn K (.ref C) "line" = some none
  fnd : PySem.W.findIn K (.ref C) "__init__" = some (some (.ref fI))
  tyI : PySem.W.typeIn K (.ref fI) = some (.type "function")
def fitI (i : Int) : Bool := decide (i.natAbs.log2 < 1920) && (decide ((Str.empty ++ ("line " : Str)).length ≤ sizeLine) && (decide ((Str.empty ++ ("line " : Str) ++ (toString i : Str)).length ≤ sizeLine) && decide ((Str.empty ++ ("line " : Str) ++ (toString i : Str) ++ (" cannot be read" : Str)).length ≤ sizeLine)))
/-- C(e), e an int -/
def tIni (C : Addr) (ta : TE) : TE := fun σ H Q => ta σ H fun v H1 => ∃ i : Int, v = .int i ∧ fitI i = true ∧ ∀ d a, H1 d = none → H1 a = none → d ≠ a → Q (.ref a) (upd (upd H1 d (exd d [("line", .int i)])) a (exo a C (some d)))
theorem get3 (h : Heap) (us : List Value) (C : Addr) : ((h.push (PySem.W.kdv_tup us)).push (PySem.HandSPX.excO C h.objs.size)).get? (h.objs.size + 1) = some (PySem.HandSPX.excO C h.objs.size) := by heap_get
/-- an error that is being made gets its dict -/
theorem inv_put {X : Cx} {pins : List (Addr × Obj)} {σ : L2.St} {H : Hp} {s : Shared} {a C dx t1 : Addr} {f : Str} {y : V} {u : Value} {h' : Heap} {tk' : Nat} (I : Inv X pins σ H s) (e : H a = some (exo a C none)) (ry : RelV y u)
    (k : ∀ b o, b ≠ a → s.heap.get? b = some o → h'.get? b = some o) (dn : s.heap.objs.size ≤ dx) (hx : h'.get? a = some (eob C t1 (some dx))) (hn : h'.Ns1 dx (fun y => if y = f then some u else none)) :
    Inv X pins σ (upd (upd H dx (exd dx [(f, y)])) a (exo a C (some dx))) { s with heap := h', toks := tk' } := by
  have gone : H dx = none := I.hok.fresh dn
  have oth : ∀ {b : Addr} {o : Obj}, s.heap.get? b = some o → b ≠ dx := fun {b o} z => Nat.ne_of_lt (Nat.lt_of_lt_of_le (Heap.lt_size z) dn)
  have off : ∀ {b : Addr}, H b = none → b ≠ a := fun {b} z w => by
    rw [w, e] at z
    cases z
  refine I.un (t' := tk') (Un.mk (fun b o z n _ _ => k b o (off n) z) (fun b o z n _ _ => ⟨o.slots, k b o (off n) z⟩) (fun b o z n _ => by rw [upd_ne (off n), upd_ne (oth z)]; exact n) (fun b o z _ => ?_)
    (fun b xs z => by rw [upd_ne (at_ne e z exo_tup), upd_ne (ne_of_none z gone)]; exact z) (fun b o v z => by rw [upd_ne (at_ne e z exo_frz), upd_ne (ne_of_none z gone)]; exact z) (fun b ps z => ⟨#[], by rw [upd_ne (at_ne e z exo_tbl), upd_ne (ne_of_none z gone), z]; simp⟩)) (fun b o z => ?_)
  · by_cases hb : b = a
    · exact ⟨_, by rw [hb]; exact hx⟩
    · exact ⟨o, k b o hb z⟩
  · by_cases hb : b = a
    · rw [hb, upd_same] at z
      cases z
      rw [hb]
      exact exo_ok hx
    · rw [upd_ne hb] at z
      by_cases hd : b = dx
      · rw [hd, upd_same] at z
        cases z
        rw [hd]
        exact exd_ok hn (relO_put (fs := []) ry fun _ => True.intro)
      · rw [upd_ne hd] at z
        refine (I.hok b o z).stay (fun c v hc w => k c v ?_ w) (fun c hc => ?_) fun c xs hc => ?_
        · rcases hc with hc | hc
          · rw [hc]
            exact hb
          · exact at_ne e hc exo_own
        · rw [upd_ne (at_ne e hc exo_own), upd_ne (ne_of_none hc gone)]
          exact hc
        · rw [upd_ne (at_ne e hc exo_tup), upd_ne (ne_of_none hc gone)]
          exact hc
section
variable {X : Cx} {C fI : Addr} {k : Nat} {x : Str} {e : Expr} {ta : TE} {p pos : Pos}
theorem pe_ini (T : IC X.K X.prog C fI) (hr : Room (k + 1) X.A) (hg : Gl X x) (hm : X.mg x = some (.ref C)) (hsup : X.mg "super" = none) (he : PE X e ta)
    (hdb : (x == ("__debug__" : Str)) = false := by decide) (hs : starEach [e] X.env = (false, eval e X.env) :: starEach [] X.env := by rfl) :
    PE X (.Call (.Name x p) [e] [] pos) (tIni C ta) := by
  refine ⟨fun ps s σ H Q I hh => ?_⟩
  obtain ⟨nm, q, N, bs, bm, sn, sb, ab, cl0, dd, k0, k1, k2, k3, k5, hC, hbm⟩ := T.ox.cls
  refine wpAny_Call_Name_kw (ld_glob I hg hm ?_ hdb)
  refine PySem.W.callWith_K (h₀ := X.base) I.ok.mod.kin T.ox.kC ?_ hs (by rfl)
  rw [hs]
  refine Calls.spliced_cons (thn (he.run ps s σ H _ I hh) fun u s1 ⟨v, H1, I1, rv, i, ev, hf, q1⟩ => ?_)
  subst ev
  obtain ⟨tk, rfl⟩ := rv
  refine Calls.spliced_nil ⟨I1.kIn, ?_⟩
  obtain ⟨h, g, dr, tok, os⟩ := s1
  obtain ⟨f1, hf⟩ := Bool.and_eq_true_iff.mp hf
  obtain ⟨f2, hf⟩ := Bool.and_eq_true_iff.mp hf
  obtain ⟨f3, f4⟩ := Bool.and_eq_true_iff.mp hf
  obtain ⟨oc, ct, kV, doc, pm, ccl, cl, od, an, cdd, cld, osl, ccs, csl, vs, file, qual, tf, cc, cda, g1, g2, g3, g4, g5, g6⟩ := T.ini
  have lt0 : h.objs.size ≤ h.objs.size + 1 := Nat.le_succ _
  have kk : ∀ b o, h.get? b = some o → ((h.push (PySem.W.kdv_tup [.int i tk])).push (PySem.HandSPX.excO C h.objs.size)).get? b = some o := fun b o z => Heap.get?_push_of_some _ (Heap.get?_push_of_some _ z)
  have ha : ((h.push (PySem.W.kdv_tup [.int i tk])).push (PySem.HandSPX.excO C h.objs.size)).get? (h.objs.size + 1) = some (PySem.HandSPX.excO C h.objs.size) := get3 h [.int i tk] C
  have na : H1 (h.objs.size + 1) = none := I1.hok.fresh lt0
  have bk := I1.bk
  obtain ⟨mb, b1, b2⟩ := I1.ok.mod.blt
  have KX := I1.kIn
  refine wpAny_call (PySem.HandSPX.call_own F.excBase_ValueError (fun Y => PySem.HandSPX.refsVE_contains Y bm hbm) (KX _ _ hC) (PySem.W.looks_findIn KX T.fnd) (fun self => PySem.W.bind_fn KX self T.tyI) (by show 1 ≤ sizeLine; rw [sizeLine_eq]; omega) ?_)
  refine init_run (hp := (h.push (PySem.W.kdv_tup [.int i tk])).push (PySem.HandSPX.excO C h.objs.size)) (KX.keeps kk) ((I1.ok.mod.glob.keeps bk).keeps kk) hsup ((b1.keeps bk).keeps kk) ((b2 "super" (by decide)).trans (by kernel_rfl)) (hr.make C [.int i tk] []).depth (I1.nolimit.keeps kk) g1 g2 g3 g4 g5 T.top g6 hC hbm T.ox.sa T.sub T.opq T.sup T.isV T.nof ha
    (fun o z => absurd (show h.objs.size + 1 < h.objs.size from Heap.lt_size (KX _ _ z)) (by omega)) (of_decide_eq_true f1) (of_decide_eq_true f2) (of_decide_eq_true f3) (of_decide_eq_true f4) (fun h' tk' dx t1 ka dn dne hx hn => ?_)
  have J1 : Inv X ps σ (upd H1 (h.objs.size + 1) (exo (h.objs.size + 1) C none)) ⟨(h.push (PySem.W.kdv_tup [.int i tk])).push (PySem.HandSPX.excO C h.objs.size), g, dr, tok, os⟩ := I1.laid (t' := tok) kk lt0 (exo_ok ha)
  have nd : H1 dx = none := I1.hok.fresh (Nat.le_trans (by simp [Heap.push]; omega) dn)
  have J2 := inv_put (t1 := t1) (y := .int i) (f := "line") (tk' := tk') J1 upd_same ⟨tk, rfl⟩ ka dn hx hn
  have eH : upd (upd (upd H1 (h.objs.size + 1) (exo (h.objs.size + 1) C none)) dx (exd dx [("line", .int i)])) (h.objs.size + 1) (exo (h.objs.size + 1) C (some dx)) = upd (upd H1 dx (exd dx [("line", .int i)])) (h.objs.size + 1) (exo (h.objs.size + 1) C (some dx)) := by
    funext b
    by_cases hb : b = h.objs.size + 1
    · rw [hb, upd_same, upd_same]
    · rw [upd_ne hb, upd_ne hb]
      by_cases hd : b = dx
      · rw [hd, upd_same, upd_same]
      · rw [upd_ne hd, upd_ne hd, upd_ne hb]
  rw [eH] at J2
  exact ⟨rfl, .ref _, _, J2, rfl, q1 dx _ nd na dne⟩
end
end XV

/-! errors as values, reckoned -/
namespace Rf
open PySem L2
noncomputable def orB (a b : Bool) : Bool := Bool.rec (motive := fun _ => Bool) b true a
theorem orB_eq (a b : Bool) : orB a b = (a || b) := by cases a <;> rfl
noncomputable def eExc (C : Nat) (a : CE) : CE := fun l h m => bindE (a l h m) fun v h m => .ok (.cons (.ch C) (.cons v .nil)) h m
noncomputable def inI (i : Int) (is : List Int) : Bool := List.rec (motive := fun _ => Bool) false (fun j _ r => orB (eqI i j) r) is
theorem inI_mem {i : Int} : ∀ is : List Int, inI i is = true → i ∈ is
  | [], h => absurd h (by intro z; cases z)
  | j :: r, h => by
    have h' : orB (eqI i j) (inI i r) = true := h
    rw [orB_eq, eqI_eq, Bool.or_eq_true] at h'
    rcases h' with h' | h'
    · rw [beq_iff_eq] at h'
      rw [h']
      exact List.mem_cons_self
    · exact List.mem_cons_of_mem _ (inI_mem r h')
noncomputable def eIni (C : Nat) (is : List Int) (a : CE) : CE := fun l h m => bindE (a l h m) fun v h m => onInt .bad (fun i => Bool.rec (motive := fun _ => RE) .bad (.ok (.cons (.lst (.ch C)) (.int i)) h m) (inI i is)) v
/-- of an error: its class -/
noncomputable def clsK (k : Nat → RE) : EV → RE := EV.rec (motive := fun _ => RE) .bad (fun _ => .bad) (fun _ => .bad) (fun _ _ => .bad) .bad
  (fun x _ _ _ => EV.rec (motive := fun _ => RE) .bad (fun _ => .bad) (fun _ => .bad) (fun _ _ => .bad) .bad (fun _ _ _ _ => .bad) (fun _ _ => .bad)
    (fun y _ => EV.rec (motive := fun _ => RE) .bad (fun _ => .bad) (fun _ => .bad) (fun _ _ => .bad) .bad (fun _ _ _ _ => .bad) (fun _ _ => .bad) (fun _ _ => .bad) (fun _ => .bad) k y) (fun _ => .bad) k x)
  (fun _ _ => .bad) (fun _ _ => .bad) (fun _ => .bad) (fun _ => .bad)
noncomputable def lkB (tb : List (Nat × Bool)) (C : Nat) (k : Bool → RE) : RE := List.rec (motive := fun _ => RE) .bad (fun p _ r => Bool.rec (motive := fun _ => RE) r (k p.2) (Nat.beq C p.1)) tb
theorem lkB_of {P : RE → Prop} (hbad : ¬ P .bad) {C : Nat} {k : Bool → RE} : ∀ tb : List (Nat × Bool), P (lkB tb C k) → ∃ b, (C, b) ∈ tb ∧ P (k b)
  | [], p => absurd p hbad
  | (D, b) :: r, p => by
    have p' : P (Bool.rec (motive := fun _ => RE) (lkB r C k) (k b) (Nat.beq C D)) := p
    cases q : Nat.beq C D with
    | true =>
      rw [q] at p'
      rw [Nat.eq_of_beq_eq_true q]
      exact ⟨b, List.mem_cons_self, p'⟩
    | false =>
      rw [q] at p'
      obtain ⟨c, hc, pc⟩ := lkB_of hbad r p'
      exact ⟨c, List.mem_cons_of_mem _ hc, pc⟩
noncomputable def fIsx (tb : List (Nat × Bool)) : EV → Tr → Nat → RE := fun v h m => clsK (fun C => lkB tb C fun b => okB b h m) v
section
variable {X : Cx} {CV : Nat → Value} {W : WX} {a b : CE} {ea eb : Expr} {es : List Expr} {pos p p2 : Pos} {σ : L2.St} {g : Gm} {m : Nat} {h : Tr} {H : Hp} {K : KE}
theorem te_exc {C : Nat} {σ : L2.St} {H : Hp} {Q : VK} (t : tE CV W (eExc C a) σ H Q) : XV.tErv C (tE CV W a) σ H Q := by
  obtain ⟨l, h, m, g, s, lr, q⟩ := t
  refine ⟨l, h, m, g, s, lr, PostE.mono (PostE.bind q) fun g1 m1 h1 H1 v e1 s1 q1 x rx t a ht ha hta => ?_⟩
  have e2 : Ext g1 m1 H1 g1 m1 (upd H1 t (.tup [x])) := Ext.laid ht
  have s2 := s1.laid (o := .tup [x]) ht
  have ha2 : (upd H1 t (.tup [x])) a = none := by rw [upd_ne (Ne.symm hta)]; exact ha
  have e3 : Ext g1 m1 (upd H1 t (.tup [x])) g1 m1 (upd (upd H1 t (.tup [x])) a (XV.Erv C t a none)) := Ext.laid ha2
  refine q1 g1 _ (e2.trans e3) (s2.laid ha2) _ ⟨a, t, [x], rfl, upd_same, s1.free ha, ?_, s1.free ht, x, [], rfl, (rx.mono e2).mono e3, rfl⟩
  rw [upd_ne hta]
  exact upd_same
theorem de_exc {C : Addr} {bmB : List Value} {B newId initId : String} {x : Str} (F : ExcBaseFacts B newId initId bmB) (q : PySem.W.excIn X.K C bmB newId = true) (gC : X.mg x = some (.ref C)) (kC : PySem.W.keepIn X.K (.ref C) = true) (hg : Gl X x)
    (ha : PE X ea (tE CV W a)) (hs : starEach [ea] X.env = (false, eval ea X.env) :: starEach [] X.env := by rfl) (hdb : (x == ("__debug__" : Str)) = false := by decide) : PE X (.Call (.Name x p) [ea] [] pos) (tE CV W (eExc C a)) :=
  pe_mono (XV.pe_excV F q gC kC hg ha hs hdb) fun _ _ _ => te_exc
theorem nobad : ¬ PostE CV W σ g m H .bad K := fun z => z
theorem bool_of {c : Bool} {A B : RE} {P : RE → Prop} (hbad : ¬ P B) (h : P (Bool.rec (motive := fun _ => RE) B A c)) : c = true ∧ P A := by
  cases c with
  | true => exact ⟨rfl, h⟩
  | false => exact absurd h hbad
theorem te_ini {C : Nat} {is : List Int} (hf : ∀ i ∈ is, XV.fitI i = true) {σ : L2.St} {H : Hp} {Q : VK} (t : tE CV W (eIni C is a) σ H Q) : XV.tIni C (tE CV W a) σ H Q := by
  obtain ⟨l, h, m, g, s, lr, q⟩ := t
  refine ⟨l, h, m, g, s, lr, PostE.mono (PostE.bind q) fun g1 m1 h1 H1 v e1 s1 q1 x rx => ?_⟩
  obtain ⟨i, rfl, rfl, q1⟩ := onInt_of rx q1
  obtain ⟨hi, q1⟩ := bool_of (P := fun r => PostE CV W σ g1 m1 H1 r _) nobad q1
  refine ⟨i, rfl, hf i (inI_mem is hi), fun d a hd ha hda => ?_⟩
  have e2 : Ext g1 m1 H1 g1 m1 (upd H1 d (exd d [("line", .int i)])) := Ext.laid hd
  have ha2 : (upd H1 d (exd d [("line", .int i)])) a = none := by rw [upd_ne (Ne.symm hda)]; exact ha
  refine q1 g1 _ (e2.trans (Ext.laid ha2)) ((s1.laid hd).laid ha2) _ ⟨a, d, .int i, rfl, upd_same, s1.free ha, ?_, s1.free hd, rfl⟩
  rw [upd_ne hda]
  exact upd_same
theorem de_ini {C fI : Addr} {k : Nat} {is : List Int} {x : Str} (T : XV.IC X.K X.prog C fI) (hf : ∀ i ∈ is, XV.fitI i = true) (hr : Room (k + 1) X.A) (hg : Gl X x) (hm : X.mg x = some (.ref C)) (hsup : X.mg "super" = none)
    (ha : PE X ea (tE CV W a)) (hdb : (x == ("__debug__" : Str)) = false := by decide) (hs : starEach [ea] X.env = (false, eval ea X.env) :: starEach [] X.env := by rfl) : PE X (.Call (.Name x p) [ea] [] pos) (tE CV W (eIni C is a)) :=
  pe_mono (XV.pe_ini T hr hg hm hsup ha hdb hs) fun _ _ _ => te_ini hf
/-- an error's object -/
theorem clsK_of {k : Nat → RE} {v : EV} {x : V} (rx : R g m H v x) (q : PostE CV W σ g m H (clsK k v) K) :
    ∃ C a, x = .ref a ∧ ((∃ t, H a = some (XV.Erv C t a none)) ∨ ∃ d fs, H a = some (exo a C (some d)) ∧ H d = some (exd d fs)) ∧ PostE CV W σ g m H (k C) K := by
  cases v with
  | cons x xs =>
    match x, rx, q with
    | .ch C, rx, q =>
      obtain ⟨a, t, vs, rfl, h1, _, h2, _, _⟩ := rx
      exact ⟨C, a, rfl, .inl ⟨t, h1⟩, q⟩
    | .lst (.ch C), rx, q =>
      obtain ⟨a, d, y, rfl, h1, _, h2, _, _⟩ := rx
      exact ⟨C, a, rfl, .inr ⟨d, _, h1, h2⟩, q⟩
  | non => exact q.elim
  | bl => exact q.elim
  | int => exact q.elim
  | str => exact q.elim
  | nil => exact q.elim
  | tup => exact q.elim
  | lst => exact q.elim
  | ref => exact q.elim
  | ch => exact q.elim
theorem de_isx {x : Str} {cv : Value} {tb : List (Nat × Bool)} {c : V} (hg : Gl X "isinstance") (hm : X.mg "isinstance" = none) (ha : PE X ea (tE CV W a)) (hT : PE X (.Name x p2) (tC c)) (hcv : ClsV c cv)
    (htb : ∀ C b, (C, b) ∈ tb → XV.EC X.K C ∧ PySem.W.kitOne X.K (.ref C) cv = some b)
    (he : starEach [ea, .Name x p2] X.env = (false, eval ea X.env) :: starEach [.Name x p2] X.env := by rfl) (he2 : starEach [.Name x p2] X.env = (false, eval (.Name x p2) X.env) :: starEach [] X.env := by rfl) (hpl : (backTo pos (starEach [.Name x p2] X.env)).any (·.1) = false := by rfl) :
    PE X (.Call (.Name "isinstance" p) [ea, .Name x p2] [] pos) (tE CV W (eUn (fIsx tb) a)) := by
  refine pe_mono (pe_callB (callR_or XV.call_isV XV.call_isO) hg hm (by decide +kernel) (pa_cons ha (pa_cons hT pa_nil he2) he) (by decide) (by decide) he hpl) fun σ H Q ⟨l, h, m, g, s, lr, q⟩ => ⟨l, h, m, g, s, lr, PostE.mono (PostE.bind q) fun g1 m1 h1 H1 v e1 s1 q1 y ry => ?_⟩
  obtain ⟨C, a, rfl, hh, q2⟩ := clsK_of ry q1
  obtain ⟨b, hb, q3⟩ := lkB_of (P := fun r => PostE CV W σ g1 m1 H1 r _) nobad tb q2
  rw [okB_eq] at q3
  obtain ⟨T, kb⟩ := htb C b hb
  have fin : Q (.bl b) H1 := post_ok s1 q3 _ rfl
  rcases hh with ⟨t, ht⟩ | ⟨d, fs, h1, h2⟩
  · exact .inl ⟨a, C, t, c, cv, b, rfl, ht, T, hcv, kb, fin⟩
  · exact .inr ⟨a, C, d, fs, c, cv, b, rfl, h1, h2, T, hcv, kb, fin⟩
/-- str of an error -/
noncomputable def stx (h : Tr) (m : Nat) : EV → RE := EV.rec (motive := fun _ => RE) .bad (fun _ => .bad) (fun _ => .bad) (fun _ _ => .bad) .bad
  (fun c r _ _ => EV.rec (motive := fun _ => RE) .bad (fun _ => .bad) (fun _ => .bad) (fun _ _ => .bad) .bad (fun _ _ _ _ => .bad) (fun _ _ => .bad) (fun _ _ => .bad) (fun _ => .bad)
    (fun _ => EV.rec (motive := fun _ => RE) .bad (fun _ => .bad) (fun _ => .bad) (fun _ _ => .bad) .bad
      (fun s q _ _ => EV.rec (motive := fun _ => RE) .bad (fun _ => .bad) (fun _ => .bad) (fun _ _ => .bad)
        (EV.rec (motive := fun _ => RE) .bad (fun _ => .bad) (fun _ => .bad) (fun t _ => .ok (.str t) h m) .bad (fun _ _ _ _ => .bad) (fun _ _ => .bad) (fun _ _ => .bad) (fun _ => .bad) (fun _ => .bad) s)
        (fun _ _ _ _ => .bad) (fun _ _ => .bad) (fun _ _ => .bad) (fun _ => .bad) (fun _ => .bad) q) (fun _ _ => .bad) (fun _ _ => .bad) (fun _ => .bad) (fun _ => .bad) r) c)
  (fun _ _ => .bad) (fun _ _ => .bad) (fun _ => .bad) (fun _ => .bad)
noncomputable def clsOk (Cs : List Nat) (C : Nat) (r : RE) : RE := List.rec (motive := fun _ => RE) .bad (fun D _ q => Bool.rec (motive := fun _ => RE) q r (Nat.beq C D)) Cs
theorem clsOk_of {P : RE → Prop} (hbad : ¬ P .bad) {C : Nat} {r : RE} : ∀ Cs : List Nat, P (clsOk Cs C r) → C ∈ Cs ∧ P r
  | [], p => absurd p hbad
  | D :: q, p => by
    have p' : P (Bool.rec (motive := fun _ => RE) (clsOk q C r) r (Nat.beq C D)) := p
    cases z : Nat.beq C D with
    | true =>
      rw [z] at p'
      rw [Nat.eq_of_beq_eq_true z]
      exact ⟨List.mem_cons_self, p'⟩
    | false =>
      rw [z] at p'
      obtain ⟨c, pc⟩ := clsOk_of hbad q p'
      exact ⟨List.mem_cons_of_mem _ c, pc⟩
noncomputable def fStx (Cs : List Nat) : EV → Tr → Nat → RE := fun v h m => onCons .bad (fun x _ => clsK (fun C => clsOk Cs C (stx h m x)) x) v
theorem stx_of {v : EV} {x : V} (rx : R g m H v x) (q : PostE CV W σ g m H (stx h m v) K) : ∃ C a t c l, v = .cons (.ch C) (.cons (.str c) .nil) ∧ codes c = some l ∧ x = .ref a ∧ H a = some (XV.Erv C t a none) ∧ H t = some (.tup [.str ⟨l.toArray⟩]) ∧ PostE CV W σ g m H (.ok (.str c) h m) K := by
  cases v with
  | cons c r =>
    cases c with
    | ch C =>
      cases r with
      | cons s q2 =>
        cases q2 with
        | nil =>
          cases s with
          | str c =>
            obtain ⟨a, t, vs, rfl, h1, _, h2, _, rl⟩ := rx
            obtain ⟨v, r, rfl, ⟨l, hl, rfl⟩, er⟩ := rl
            cases (show r = [] from er)
            exact ⟨C, a, t, c, l, rfl, hl, rfl, h1, h2, q⟩
          | _ => exact q.elim
        | _ => exact q.elim
      | _ => exact q.elim
    | _ => exact q.elim
  | _ => exact q.elim
theorem o_stx {Kf : PySem.W.Frag} {Cs : List Nat} (hC : ∀ C ∈ Cs, XV.EC Kf C) : OpN CV W (fun v h m => arK (fStx Cs v h m) 1 v) (XV.rStrV Kf) := fun σ g m h H v xs Q s rl q => by
  cases v with
  | cons y t =>
    cases t with
    | nil =>
      obtain ⟨z, r, rfl, ry, er⟩ := rl
      cases (show r = [] from er)
      have q0 : PostE CV W σ g m H (clsK (fun C => clsOk Cs C (stx h m y)) y) _ := q
      obtain ⟨C, a, rfl, hh, q1⟩ := clsK_of ry q0
      obtain ⟨hm, q2⟩ := clsOk_of (P := fun r => PostE CV W σ g m H r _) nobad Cs q1
      obtain ⟨C', a', t, c, l, ev, hl, ea, h1, h2, q3⟩ := stx_of ry q2
      subst ev
      cases ea
      have q4 : PostE CV W σ g m H (clsK (fun C => clsOk Cs C (.ok (.str c) h m)) (.cons (.ch C') (.cons (.str c) .nil))) (fun g' m' _ H' z => ∀ u, R g' m' H' z u → Q u H') := q0
      obtain ⟨hm', q5⟩ := clsOk_of (P := fun r => PostE CV W σ g m H r (fun g' m' _ H' z => ∀ u, R g' m' H' z u → Q u H')) nobad Cs (show PostE CV W σ g m H (clsOk Cs C' (.ok (.str c) h m)) _ from q4)
      exact ⟨a, C', t, _, rfl, h1, h2, hC C' hm', post_ok s q5 _ ⟨l, hl, rfl⟩⟩
    | _ => exact q.elim
  | _ => exact q.elim
theorem de_str {Cs : List Nat} {e : Expr} (hu : X.A.units + 2 < cLine) (hC : ∀ C ∈ Cs, XV.EC X.K C) (hg : Gl X "str") (hm : X.mg "str" = none) (hv : bootBuiltins "str" = some (.type "str")) (ha : PA X (e :: es) (tA CV W a))
    (he : starEach (e :: es) X.env = (false, eval e X.env) :: starEach es X.env := by rfl) (hpl : (backTo pos (starEach es X.env)).any (·.1) = false := by rfl) : PE X (.Call (.Name "str" p) (e :: es) [] pos) (tE CV W (eBi (fun v h m => arK (fStx Cs v h m) 1 v) a)) :=
  pe_mono (pe_callTy (XV.call_strV hu) hg hm hv ha (by decide) (by decide) he hpl) fun σ H Q ⟨l, h, m, g, s, lr, q⟩ => ⟨l, h, m, g, s, lr, PostE.mono (PostE.bind q) fun g1 m1 h1 H1 v e1 s1 q1 xs rx => o_stx hC σ g1 m1 h1 H1 v xs Q s1 rx q1⟩
/-- e.line -/
noncomputable def fLnx (D : Nat) : EV → Tr → Nat → RE := fun v h m => onCons .bad (fun c r => EV.rec (motive := fun _ => RE) .bad (fun _ => .bad) (fun _ => .bad) (fun _ _ => .bad) .bad (fun _ _ _ _ => .bad) (fun _ _ => .bad)
  (fun y _ => EV.rec (motive := fun _ => RE) .bad (fun _ => .bad) (fun _ => .bad) (fun _ _ => .bad) .bad (fun _ _ _ _ => .bad) (fun _ _ => .bad) (fun _ _ => .bad) (fun _ => .bad) (fun C => Bool.rec (motive := fun _ => RE) .bad (.ok r h m) (Nat.beq C D)) y) (fun _ => .bad) (fun _ => .bad) c) v
theorem de_line {C : Nat} (T : L2.XfC X.K C) (hno : PySem.W.findIn X.K (.ref C) "line" = some none) (ha : PE X ea (tE CV W a)) (hb : attributeBase ea "line" X.env (eval ea X.env) = eval ea X.env := by rfl) : PE X (.Attribute ea "line" pos) (tE CV W (eUn (fLnx C) a)) := by
  refine pe_mono (XV.pe_fldO ha hb) fun σ H Q ⟨l, h, m, g, s, lr, q⟩ => ⟨l, h, m, g, s, lr, PostE.mono (PostE.bind q) fun g1 m1 h1 H1 v e1 s1 q1 y ry => ?_⟩
  cases v with
  | cons c r =>
    cases c with
    | lst z =>
      cases z with
      | ch D =>
        obtain ⟨a, d, y, rfl, k1, _, k2, _, ry⟩ := ry
        have q2 : PostE CV W σ g1 m1 H1 (Bool.rec (motive := fun _ => RE) .bad (.ok r h1 m1) (Nat.beq D C)) (fun g' m' _ H' z => ∀ u, R g' m' H' z u → Q u H') := q1
        cases z : Nat.beq D C with
        | false =>
          rw [z] at q2
          exact q2.elim
        | true =>
          rw [z] at q2
          rw [Nat.eq_of_beq_eq_true z] at k1
          exact ⟨a, C, d, _, y, rfl, k1, k2, T, hno, by simp [List.lookup], post_ok s1 q2 y ry⟩
      | _ => exact q1.elim
    | _ => exact q1.elim
  | _ => exact q1.elim
end
end Rf

/-! a sum of lists that is to be changed, in, a list repeated -/
namespace Rf
open PySem L2
noncomputable def newM (h : Tr) (m : Nat) (z : EV) : RE := revK z .nil fun r => tsetK (.lst r) .bad h m fun h' => forceN (Nat.succ m) fun m' => .ok (.ref m) h' m'
noncomputable def fAddM : EV → EV → Tr → Nat → RE := fun v w h m => seqK (fun xs => seqK (fun ys => appK ys xs fun z => lenOk z (newM h m z)) (fun _ => .bad) w h) (fun _ => .bad) v h
noncomputable def beqB (a b : Bool) : Bool := Bool.rec (motive := fun _ => Bool) (Bool.rec (motive := fun _ => Bool) true false b) b a
theorem beqB_eq (a b : Bool) : beqB a b = (a == b) := by cases a <;> cases b <;> rfl
noncomputable def inB (b : Bool) (e : EV) (k : Bool → RE) : RE := EV.rec (motive := fun _ => (Bool → RE) → RE) (fun _ => .bad) (fun _ _ => .bad) (fun _ _ => .bad) (fun _ _ _ => .bad) (fun k => k false)
  (fun x _ _ ih k => onBl .bad (fun c => Bool.rec (motive := fun _ => RE) (ih k) (ih fun _ => k true) (beqB c b)) x) (fun _ _ _ => .bad) (fun _ _ _ => .bad) (fun _ _ => .bad) (fun _ _ => .bad) e k
noncomputable def fIn : EV → EV → Tr → Nat → RE := fun v w h m => onBl .bad (fun b => seqK (fun e => inB b e fun r => okB r h m) (fun _ => .bad) w h) v
noncomputable def repN (xs : EV) (n : Nat) : (EV → RE) → RE := Nat.rec (motive := fun _ => (EV → RE) → RE) (fun k => k .nil) (fun _ ih k => ih fun z => appK z xs k) n
noncomputable def fRep : EV → EV → Tr → Nat → RE := fun v w h m => onInt .bad (fun i => seqK (fun e => lenK e 0 fun n => Bool.rec (motive := fun _ => RE) .bad (repN e i.toNat fun z => .ok (.lst z) h m) (andB (Nat.ble i.natAbs 1000000) (Nat.ble (Nat.mul n i.toNat) 16000000))) (fun _ => .bad) v h) w
section
variable {X : Cx} {CV : Nat → Value} {W : WX} {a b : CE} {ea eb : Expr} {es : List Expr} {pos p p2 : Pos} {σ : L2.St} {g : Gm} {m : Nat} {h : Tr} {H : Hp} {K : KE}
theorem newM_of {z : EV} {vs : List V} {Q : VK} (s : S g m h H) (rz : RL g m H z vs) (q : PostE CV W σ g m H (newM h m z) fun g' m' _ H' z => ∀ u, R g' m' H' z u → Q u H') {p : Addr} (hp : H p = none) : Q (.ref p) (upd H p (.lst vs)) := by
  obtain ⟨r, er, rr⟩ := revK_RL (α := RE) z vs .nil [] rz (show RL g m H .nil [] from rfl) fun r => tsetK (.lst r) .bad h m fun h' => forceN (Nat.succ m) fun m' => .ok (.ref m) h' m'
  unfold newM at q
  rw [er] at q
  rw [List.append_nil] at rr
  rcases tsetK_eq (.lst r) RE.bad h m (fun h' => forceN (Nat.succ m) fun m' => .ok (.ref m) h' m') with ⟨h', ht, et⟩ | et
  · rw [et, forceN_eq] at q
    exact q (g.alloc m p) (upd H p (.lst vs)) (alloc_ext s hp) (alloc_S s hp rr ht) _ ⟨Nat.lt_succ_self _, by show V.ref p = V.ref (if m = m then p else _); rw [if_pos rfl]⟩
  · rw [et] at q; exact q.elim
theorem o_addM : Op2 CV W fAddM rCat := fun σ g m h H v w x y Q s rx ry p => by
  obtain ⟨a, vs, e, rfl, rl, q⟩ := seqK_of (kL := fun xs => seqK (fun ys => appK ys xs fun z => lenOk z (newM h m z)) (fun _ => .bad) w h) (kT := fun _ => .bad) s rx p
  rcases q with ⟨ha, q⟩ | ⟨_, _, q⟩
  · obtain ⟨b, ws, e2, rfl, rl2, q⟩ := seqK_of (kL := fun ys => appK ys e fun z => lenOk z (newM h m z)) (kT := fun _ => .bad) s ry q
    rcases q with ⟨hb, q⟩ | ⟨_, _, q⟩
    · obtain ⟨z, ez, rz⟩ := appK_RL (α := RE) rl2 e vs rl fun z => lenOk z (newM h m z)
      rw [ez] at q
      obtain ⟨hl, q⟩ := lenOk_of rz q
      rw [List.length_append] at hl
      exact ⟨a, b, vs, ws, rfl, rfl, ha, hb, Nat.le_of_lt (small16 hl), fun p hp => newM_of s rz q hp⟩
    · exact q.elim
  · exact q.elim
theorem inB_of {P : RE → Prop} (hbad : ¬ P .bad) {b : Bool} : ∀ (e : EV) (vs : List V) (k : Bool → RE), RL g m H e vs → P (inB b e k) → vs.all flatV = true ∧ P (k (inV (.bl b) vs))
  | .nil, vs, k, r, p => by
    cases (show vs = [] from r)
    exact ⟨rfl, p⟩
  | .cons x t, vs, k, r, p => by
    obtain ⟨v, w, rfl, h1, h2⟩ := r
    cases x with
    | bl c =>
      cases (show v = .bl c from h1)
      have p' : P (Bool.rec (motive := fun _ => RE) (inB b t k) (inB b t fun _ => k true) (beqB c b)) := p
      rw [beqB_eq] at p'
      cases q : c == b with
      | true =>
        rw [q] at p'
        obtain ⟨a1, a2⟩ := inB_of hbad t w _ h2 p'
        refine ⟨by rw [List.all_cons, a1]; rfl, ?_⟩
        rw [show inV (.bl b) (.bl c :: w) = ((c == b) || inV (.bl b) w) from rfl, q]
        exact a2
      | false =>
        rw [q] at p'
        obtain ⟨a1, a2⟩ := inB_of hbad t w _ h2 p'
        refine ⟨by rw [List.all_cons, a1]; rfl, ?_⟩
        rw [show inV (.bl b) (.bl c :: w) = ((c == b) || inV (.bl b) w) from rfl, q]
        exact a2
    | _ => exact absurd p hbad
  | .non, _, _, r, _ => r.elim
  | .bl _, _, _, r, _ => r.elim
  | .int _, _, _, r, _ => r.elim
  | .str _, _, _, r, _ => r.elim
  | .tup _, _, _, r, _ => r.elim
  | .lst _, _, _, r, _ => r.elim
  | .ref _, _, _, r, _ => r.elim
  | .ch _, _, _, r, _ => r.elim
theorem o_in {Kf : PySem.W.Frag} : Op2 CV W fIn (rIn Kf false) := fun σ g m h H v w x y Q s rx ry p => by
  obtain ⟨b, rfl, rfl, p⟩ := onBl_of rx p
  obtain ⟨a, vs, e, rfl, rl, q⟩ := seqK_of (kL := fun e => inB b e fun r => okB r h m) (kT := fun _ => .bad) s ry p
  rcases q with ⟨ha, q⟩ | ⟨_, _, q⟩
  · obtain ⟨f1, q⟩ := inB_of (P := fun r => PostE CV W σ g m H r _) nobad e vs _ rl q
    rw [okB_eq] at q
    exact ⟨a, vs, rfl, .inl (SqL.of ha), rfl, f1, post_ok s q _ rfl⟩
  · exact q.elim
theorem repN_RL {xs : EV} {ws : List V} (hx : RL g m H xs ws) : ∀ (n : Nat) (k : EV → RE), ∃ z, repN xs n k = k z ∧ RL g m H z (List.replicate n ws).flatten
  | 0, k => ⟨.nil, rfl, rfl⟩
  | n + 1, k => by
    obtain ⟨z, ez, rz⟩ := repN_RL hx n fun z => appK z xs k
    obtain ⟨u, eu, ru⟩ := appK_RL (α := RE) rz xs ws hx k
    exact ⟨u, (show repN xs (n + 1) k = repN xs n (fun z => appK z xs k) from rfl).trans (ez.trans eu), by rw [List.replicate_succ, List.flatten_cons]; exact ru⟩
theorem o_rep : Op2 CV W fRep rRep := fun σ g m h H v w x y Q s rx ry p => by
  obtain ⟨i, rfl, rfl, p⟩ := onInt_of ry p
  obtain ⟨a, vs, e, rfl, rl, q⟩ := seqK_of (kL := fun e => lenK e 0 fun n => Bool.rec (motive := fun _ => RE) .bad (repN e i.toNat fun z => .ok (.lst z) h m) (andB (Nat.ble i.natAbs 1000000) (Nat.ble (Nat.mul n i.toNat) 16000000))) (kT := fun _ => .bad) s rx p
  rcases q with ⟨ha, q⟩ | ⟨_, _, q⟩
  · rw [lenK_RL e vs rl, Nat.zero_add] at q
    obtain ⟨c, q⟩ := bool_of (P := fun r => PostE CV W σ g m H r _) nobad q
    rw [andB_eq, Bool.and_eq_true] at c
    have c1 := Nat.le_of_ble_eq_true c.1
    have c2 : vs.length * i.toNat ≤ 16000000 := Nat.le_of_ble_eq_true c.2
    obtain ⟨z, ez, rz⟩ := repN_RL rl i.toNat fun z => .ok (.lst z) h m
    rw [ez] at q
    exact ⟨a, i, vs, rfl, rfl, ha, by omega, by omega, Nat.le_of_lt (small16 c2), fun p hp => post_new s hp q _ (R.lst s hp rz)⟩
  · exact q.elim
/-- i, j = e, e' -/
noncomputable def sPar (is : List Nat) (a : CE) : CS := fun l h m => bindES (a l h m) l fun xs h m => setAll .bad is xs l fun l => .nx l h m
theorem ts_par {i j : Nat} {D : Ends} {σ : L2.St} {H : Hp} (t : tS CV W (sPar [i, j] a) D σ H) : tPar i j (tA CV W a) D σ H := by
  obtain ⟨l, h, m, g, s, lr, p⟩ := t
  refine ⟨l, h, m, g, s, lr, PostE.mono (PostS.bind lr p) fun g1 m1 h1 H1 v e1 s1 p1 xs rx => ?_⟩
  obtain ⟨_, q⟩ := setAll_of (P := fun r => PostS CV W g1 m1 H1 r D) (show ¬ PostS CV W g1 m1 H1 .bad D from fun z => z) [i, j] v xs l σ (fun σ' H' => D.nx σ' H') rx (lr.mono e1) p1
  obtain ⟨v, r, rfl, w, r2, rfl, e, q2⟩ := q fun l' σ' lr' _ p' => p' g1 H1 σ' Ext.refl s1 lr'
  subst e
  exact ⟨v, w, rfl, q2⟩
theorem ds_par {i j : Nat} {x y : Str} {ea eb : Expr} {px py pt : Pos} {kt k2 pt2} (hc : X.calm = true) (hN : X.N.Nodup) (hi : X.N[i]? = some x) (hj : X.N[j]? = some y) (hij : i ≠ j)
    (hx : X.env.scope.names.lookup x = some .local) (hy : X.env.scope.names.lookup y = some .local) (ha : PA X [ea, eb] (tA CV W a))
    (hw : swappedStores [.Tuple [.Name x px, .Name y py] kt pt] (.Tuple [ea, eb] k2 pt2) X.env = pure (some [x, y]))
    (hs : swapsWithSole [.Tuple [.Name x px, .Name y py] kt pt] (.Tuple [ea, eb] k2 pt2) pos.line X.env = pure false := by rfl) : PS X (.Assign [.Tuple [.Name x px, .Name y py] kt pt] (.Tuple [ea, eb] k2 pt2) pos) (tS CV W (sPar [i, j] a)) :=
  ps_mono (ps_par hc hN hi hj hij hx hy ha hw hs) fun _ _ _ => ts_par
end
end Rf

namespace K25
open PySem PySem.Spec PyProof.Rows L2 Rf
def top (i : Nat) : Stmt := PySem.Challenge.pw_broodcounts_k25_error_classes.main.body.getD i (.Pass ⟨0, 0, 0, 0⟩)
abbrev sMade : Stmt := top 27
abbrev sKinds : Stmt := top 28
abbrev sLaw : Stmt := top 29
abbrev aBroodError : Nat := 24
abbrev aInvalidAsk : Nat := 58
abbrev aInvalidBook : Nat := 70
abbrev aInvalidBrood : Nat := 82
abbrev aInvalidFrame : Nat := 94
abbrev aInvalidKind : Nat := 106
abbrev aInvalidLine : Nat := 118
abbrev aInvalidLot : Nat := 130
abbrev aInvalidLots : Nat := 142
abbrev aInvalidMatch : Nat := 154
abbrev aInvalidName : Nat := 166
abbrev aInvalidNet : Nat := 178
abbrev aInvalidNumber : Nat := 190
abbrev aInvalidPath : Nat := 202
abbrev aInvalidRule : Nat := 214
abbrev aInvalidRules : Nat := 226
abbrev aInvalidSigns : Nat := 238
abbrev aInvalidTree : Nat := 250
abbrev aInvalidWish : Nat := 262
abbrev aNothingOpen : Nat := 274
abbrev aNothingToUndo : Nat := 286
abbrev aTooMany : Nat := 298
abbrev aUnknownName : Nat := 310
abbrev aUnknownSign : Nat := 322
abbrev aParseError : Nat := 46
abbrev fI : Nat := 43
def plain : List (Str × Nat) := [("BroodError", aBroodError), ("InvalidAsk", aInvalidAsk), ("InvalidBook", aInvalidBook), ("InvalidBrood", aInvalidBrood), ("InvalidFrame", aInvalidFrame), ("InvalidKind", aInvalidKind), ("InvalidLine", aInvalidLine), ("InvalidLot", aInvalidLot), ("InvalidLots", aInvalidLots), ("InvalidMatch", aInvalidMatch), ("InvalidName", aInvalidName), ("InvalidNet", aInvalidNet), ("InvalidNumber", aInvalidNumber), ("InvalidPath", aInvalidPath), ("InvalidRule", aInvalidRule), ("InvalidRules", aInvalidRules), ("InvalidSigns", aInvalidSigns), ("InvalidTree", aInvalidTree), ("InvalidWish", aInvalidWish), ("NothingOpen", aNothingOpen), ("NothingToUndo", aNothingToUndo), ("TooMany", aTooMany), ("UnknownName", aUnknownName), ("UnknownSign", aUnknownSign)]
def allC : List Nat := [aBroodError, aInvalidAsk, aInvalidBook, aInvalidBrood, aInvalidFrame, aInvalidKind, aInvalidLine, aInvalidLot, aInvalidLots, aInvalidMatch, aInvalidName, aInvalidNet, aInvalidNumber, aInvalidPath, aInvalidRule, aInvalidRules, aInvalidSigns, aInvalidTree, aInvalidWish, aNothingOpen, aNothingToUndo, aTooMany, aUnknownName, aUnknownSign, aParseError]
def isT (C D : Nat) : Bool := Nat.beq C D || Nat.beq D aBroodError
def tbD (D : Nat) : List (Nat × Bool) := allC.map fun C => (C, isT C D)
def tbV : List (Nat × Bool) := allC.map fun C => (C, true)
abbrev bmVE : List Value := [.type "ValueError", .type "Exception", .type "BaseException", .type "object"]
structure Fc (K : PySem.W.Frag) (mg : Str → Option Value) (prog : Program) : Prop where
  c : ∀ n a, (n, a) ∈ plain → mg n = some (.ref a) ∧ PySem.W.excIn K a bmVE "ValueError.__new__" = true ∧ PySem.W.keepIn K (.ref a) = true
  pm : mg "ParseError" = some (.ref aParseError)
  ec : ∀ C ∈ allC, XV.EC K C
  ik : ∀ C ∈ allC, ∀ D ∈ allC, PySem.W.kitOne K (.ref C) (.ref D) = some (isT C D)
  iv : ∀ C ∈ allC, PySem.W.kitOne K (.ref C) (.type "ValueError") = some true
  ic : XV.IC K prog aParseError fI
  xf : L2.XfC K aParseError
  no : PySem.W.findIn K (.ref aParseError) "line" = some none
  zi : mg "isinstance" = none
  zs : mg "str" = none
  zr : mg "range" = none
  zl : mg "len" = none
  zv : mg "ValueError" = none
  zu : mg "super" = none
def xs : List Nat → EV
  | [] => .nil
  | c :: r => .cons (.ch c) (xs r)
noncomputable abbrev cx : CE := eCon (.str (.cons (.ch 120) .nil))
noncomputable abbrev cy : CE := eCon (.str (.cons (.ch 121) .nil))
theorem mem_tbD {D C : Nat} {b : Bool} (h : (C, b) ∈ tbD D) : C ∈ allC ∧ b = isT C D := by
  obtain ⟨c, hc, e⟩ := List.mem_map.mp h
  cases e
  exact ⟨hc, rfl⟩
theorem mem_tbV {C : Nat} {b : Bool} (h : (C, b) ∈ tbV) : C ∈ allC ∧ b = true := by
  obtain ⟨c, hc, e⟩ := List.mem_map.mp h
  cases e
  exact ⟨hc, rfl⟩
theorem pe_callS0 {X : Cx} {CX : CXT} {k : Nat} {f : Addr} {fd : FuncData} {ps : List Str} {sp : Sp} {E : L2.St → XK} {x : Str} {p pos : Pos} (F : FnOk X.prog X.w X.K X.mg X.base CX k f fd ps sp) (hr : Room k X.A) (hg : Gl X x) (hm : X.mg x = some (.ref f)) (hk : PySem.W.keepIn X.K (.ref f) = true) (hb : Binds X.K fd ps []) (hx : ∀ σ, PassesAt CX X σ (E σ))
    (hdb : (x == ("__debug__" : Str)) = false := by decide) : PE X (.Call (.Name x p) [] [] pos) (tCallS sp E tNil) :=
  ⟨fun pins s σ H Q I h => wpAny_Call_Name_kw (ld_glob I hg hm (PySem.W.callWith_K0 I.kIn hk (run_fnS (us := []) F hr hb (hx σ) I .nil h)) hdb)⟩
theorem de_call0 {X : Cx} {CV : Nat → Value} {W : WX} {x : Str} {f : Addr} {fd : FuncData} {F : Fns} {id k : Nat} {p pos : Pos} (Fo : FnOk X.prog X.w X.K X.mg X.base (L2.CX X.prog X.w) k f fd [] (spF CV F id 0)) (tk : Takes X W) (hr : Room k X.A) (hg : Gl X x) (hm : X.mg x = some (.ref f)) (hk : PySem.W.keepIn X.K (.ref f) = true) (hb : Binds X.K fd [] [])
    (hdb : (x == ("__debug__" : Str)) = false := by decide) : PE X (.Call (.Name x p) [] [] pos) (tE CV W (eCall F id 0 eNil)) := by
  refine pe_mono (pe_callS0 Fo hr hg hm hk hb (passAt tk) hdb) fun σ H Q ⟨l, h, m, g, s, lr, q⟩ => ?_
  have q' : PostE CV W σ g m H (F id .nil h m) (fun g' m' _ H' v => ∀ x, R g' m' H' v x → Q x H') := q
  refine ⟨rfl, .nil, h, m, g, s, rfl, ?_⟩
  cases z : F id .nil h m with
  | ok => rw [z] at q'; exact q'
  | exc => rw [z] at q'; exact q'
  | bad => rw [z] at q'; exact q'
section
variable {X : Cx} {CV : Nat → Value} {W : WX} {a b : CE} {ea eb : Expr} {pos p p2 : Pos}
theorem dx {n : Str} {c : Nat} {j : Nat} (F : Fc X.K X.mg X.prog) (h : (n, c) ∈ plain) (hg : Gl X n) (hdb : (n == ("__debug__" : Str)) = false)
    (hs : starEach [.Constant (.str "x") j p2] X.env = (false, eval (.Constant (.str "x") j p2) X.env) :: starEach [] X.env := by rfl) : PE X (.Call (.Name n p) [.Constant (.str "x") j p2] [] pos) (tE CV W (eExc c cx)) :=
  de_exc PySem.F.excBase_ValueError (F.c n c h).2.1 (F.c n c h).1 (F.c n c h).2.2 hg (de_con pe_str (fun _ _ _ => ⟨[120], rfl, by decide +kernel⟩)) hs hdb
theorem dy {n : Str} {c : Nat} {j : Nat} (F : Fc X.K X.mg X.prog) (h : (n, c) ∈ plain) (hg : Gl X n) (hdb : (n == ("__debug__" : Str)) = false)
    (hs : starEach [.Constant (.str "y") j p2] X.env = (false, eval (.Constant (.str "y") j p2) X.env) :: starEach [] X.env := by rfl) : PE X (.Call (.Name n p) [.Constant (.str "y") j p2] [] pos) (tE CV W (eExc c cy)) :=
  de_exc PySem.F.excBase_ValueError (F.c n c h).2.1 (F.c n c h).1 (F.c n c h).2.2 hg (de_con pe_str (fun _ _ _ => ⟨[121], rfl, by decide +kernel⟩)) hs hdb
theorem dset {i : Nat} {x : Str} {e : Expr} {c : CE} {pos' : Pos} (hN : X.N.Nodup) (hi : X.N[i]? = some x) (hx : Loc X.env.scope x) (he : PE X e (tE CV W c)) (hs : swapsWith e (some (.Name x pos')) pos.line X.env = pure false := by rfl) (hf : X.fn x = true ∨ X.env.scope.names.lookup x = some .local := by first | exact .inl rfl | exact .inr rfl) : PS X (.Assign [.Name x pos'] e pos) (tS CV W (sAsg i c)) :=
  ds_set he (ps_set hN hi hx he hs hf)
theorem fits : ∀ i ∈ ([7, 3] : List Int), XV.fitI i = true := by decide +kernel
theorem dp {k : Nat} {i : Int} {j : Nat} (F : Fc X.K X.mg X.prog) (hr : Room (k + 1) X.A) (hg : Gl X "ParseError")
    (hs : starEach [.Constant (.int i) j p2] X.env = (false, eval (.Constant (.int i) j p2) X.env) :: starEach [] X.env := by rfl) : PE X (.Call (.Name "ParseError" p) [.Constant (.int i) j p2] [] pos) (tE CV W (eIni aParseError [7, 3] (eCon (.int i)))) :=
  de_ini F.ic fits hr hg F.pm F.zu (de_con pe_int (fun _ _ _ => rfl)) (by decide) hs
theorem di {n : Str} {D : Nat} (F : Fc X.K X.mg X.prog) (hm : X.mg n = some (.ref D)) (hD : D ∈ allC) (hg : Gl X "isinstance") (hg2 : Gl X n) (ha : PE X ea (tE CV W a)) (hdb : (n == ("__debug__" : Str)) = false)
    (he : starEach [ea, .Name n p2] X.env = (false, eval ea X.env) :: starEach [.Name n p2] X.env := by rfl) (he2 : starEach [.Name n p2] X.env = (false, eval (.Name n p2) X.env) :: starEach [] X.env := by rfl) (hpl : (backTo pos (starEach [.Name n p2] X.env)).any (·.1) = false := by rfl) :
    PE X (.Call (.Name "isinstance" p) [ea, .Name n p2] [] pos) (tE CV W (eUn (fIsx (tbD D)) a)) :=
  de_isx hg F.zi ha (pe_glob (v := .ref D) hg2 hm rfl hdb) (.own D) (fun C b h => by
    obtain ⟨h1, rfl⟩ := mem_tbD h
    exact ⟨F.ec C h1, F.ik C h1 D hD⟩) he he2 hpl
theorem dv (F : Fc X.K X.mg X.prog) (hg : Gl X "isinstance") (hg2 : Gl X "ValueError") (ha : PE X ea (tE CV W a))
    (he : starEach [ea, .Name "ValueError" p2] X.env = (false, eval ea X.env) :: starEach [.Name "ValueError" p2] X.env := by rfl) (he2 : starEach [.Name "ValueError" p2] X.env = (false, eval (.Name "ValueError" p2) X.env) :: starEach [] X.env := by rfl) (hpl : (backTo pos (starEach [.Name "ValueError" p2] X.env)).any (·.1) = false := by rfl) :
    PE X (.Call (.Name "isinstance" p) [ea, .Name "ValueError" p2] [] pos) (tE CV W (eUn (fIsx tbV) a)) :=
  de_isx hg F.zi ha (pe_bltn (v := .ty "ValueError") (u := .type "ValueError") hg2 F.zv (by decide +kernel) rfl) (.ty "ValueError") (fun C b h => by
    obtain ⟨h1, rfl⟩ := mem_tbV h
    exact ⟨F.ec C h1, F.iv C h1⟩) he he2 hpl
end
noncomputable def c_made : CS := sSeq (sAsg 0 (eLst (eCons (eExc aInvalidAsk cx) (eCons (eExc aInvalidBook cx) (eCons (eExc aInvalidBrood cx) (eCons (eExc aInvalidFrame cx) (eCons (eExc aInvalidKind cx) eNil))))))) (sSeq (sAsg 0 (eOp fAddM (eVar 0) (eLst (eCons (eExc aInvalidLine cx) (eCons (eExc aInvalidLot cx) (eCons (eExc aInvalidLots cx) (eCons (eExc aInvalidMatch cx) (eCons (eExc aInvalidName cx) eNil)))))))) (sSeq (sEx (eApp (eVar 0) (eExc aInvalidNet cx))) (sSeq (sAsg 0 (eOp fAdd (eVar 0) (eLst (eCons (eExc aInvalidNumber cx) (eCons (eExc aInvalidPath cx) (eCons (eExc aInvalidRule cx) (eCons (eExc aInvalidRules cx) (eCons (eExc aInvalidSigns cx) eNil)))))))) (sSeq (sAsg 0 (eOp fAdd (eVar 0) (eLst (eCons (eExc aInvalidTree cx) (eCons (eExc aInvalidWish cx) (eCons (eExc aNothingOpen cx) (eCons (eExc aNothingToUndo cx) (eCons (eExc aTooMany cx) eNil)))))))) (sRet (eOp fAdd (eVar 0) (eLst (eCons (eExc aUnknownName cx) (eCons (eExc aUnknownSign cx) (eCons (eIni aParseError [7, 3] (eCon (.int 7))) eNil))))))))))
theorem scMade : FnScope ["found"] [] (defScope sMade) := ⟨rfl, rfl, rfl, by decide +kernel, rfl, by decide +kernel, by decide +kernel⟩
theorem scKinds : FnScope ["one", "found"] ["one"] (defScope sKinds) := ⟨rfl, rfl, rfl, by decide +kernel, rfl, by decide +kernel, by decide +kernel⟩
theorem scLaw : FnScope ["script", "made", "k", "j", "base", "one", "part"] ["script"] (defScope sLaw) := ⟨rfl, rfl, rfl, by decide +kernel, rfl, by decide +kernel, by decide +kernel⟩
section
variable {P : Program} {w : World} {K : PySem.W.Frag} {mg : Str → Option Value} {base : Heap} {CV : Nat → Value}
theorem b_made {k : Nat} {f : Addr} {cdv : Value} {A : Around} {outer : List Env} {s : Shared} {H : Hp} {E : XK} (Fk : Fc K mg P) (hr : Room (k + 1) (A.deeper (PyProof.Rows.envOfC "_law_made" (defScope sMade) s.heap.objs.size f cdv))) :
    PSs (cxOf (L2.CX P w) P w K mg base ["found"] "_law_made" (defScope sMade) f cdv A outer s H E) (defBody sMade) (tS CV (fun c d _ H => E c d H) c_made) := by
  refine dss_cons (dset (i := 0) scMade.nd rfl (Or.inl rfl) (de_lst (da_cons (dx Fk (by decide +kernel) rfl (by decide)) (da_cons (dx Fk (by decide +kernel) rfl (by decide)) (da_cons (dx Fk (by decide +kernel) rfl (by decide)) (da_cons (dx Fk (by decide +kernel) rfl (by decide)) (da_cons (dx Fk (by decide +kernel) rfl (by decide)) da_nil)))))))
    (dss_cons (dset (i := 0) scMade.nd rfl (Or.inl rfl) (de_bin op_cat o_addM (de_var 0 (pv 0)) (de_lst (da_cons (dx Fk (by decide +kernel) rfl (by decide)) (da_cons (dx Fk (by decide +kernel) rfl (by decide)) (da_cons (dx Fk (by decide +kernel) rfl (by decide)) (da_cons (dx Fk (by decide +kernel) rfl (by decide)) (da_cons (dx Fk (by decide +kernel) rfl (by decide)) da_nil))))))))
    (dss_cons (ds_expr (ps_expr (pe_mono (pe_bm PySem.F.plainAttrs_list PySem.F.slot_list_append PySem.F.type_list_append mt_append (de_var 0 (pv 0)) (pa_cons (dx Fk (by decide +kernel) rfl (by decide)) pa_nil)) fun σ H Q t => te_app (fun _ _ _ _ => trivial) t)))
    (dss_cons (dset (i := 0) scMade.nd rfl (Or.inl rfl) (de_bin op_addE o_add (de_var 0 (pv 0)) (de_lst (da_cons (dx Fk (by decide +kernel) rfl (by decide)) (da_cons (dx Fk (by decide +kernel) rfl (by decide)) (da_cons (dx Fk (by decide +kernel) rfl (by decide)) (da_cons (dx Fk (by decide +kernel) rfl (by decide)) (da_cons (dx Fk (by decide +kernel) rfl (by decide)) da_nil))))))))
    (dss_cons (dset (i := 0) scMade.nd rfl (Or.inl rfl) (de_bin op_addE o_add (de_var 0 (pv 0)) (de_lst (da_cons (dx Fk (by decide +kernel) rfl (by decide)) (da_cons (dx Fk (by decide +kernel) rfl (by decide)) (da_cons (dx Fk (by decide +kernel) rfl (by decide)) (da_cons (dx Fk (by decide +kernel) rfl (by decide)) (da_cons (dx Fk (by decide +kernel) rfl (by decide)) da_nil))))))))
    (dss_one (ds_ret (de_bin op_addE o_add (de_var 0 (pv 0)) (de_lst (da_cons (dx Fk (by decide +kernel) rfl (by decide)) (da_cons (dx Fk (by decide +kernel) rfl (by decide)) (da_cons (dp Fk hr rfl) da_nil)))))))))))
end
noncomputable def c_kinds : CS := sSeq (sAsg 1 (eLst (eCons (eUn (fIsx (tbD aInvalidAsk)) (eVar 0)) (eCons (eUn (fIsx (tbD aInvalidBook)) (eVar 0)) (eCons (eUn (fIsx (tbD aInvalidBrood)) (eVar 0)) eNil))))) (sSeq (sAsg 1 (eOp fAdd (eVar 1) (eLst (eCons (eUn (fIsx (tbD aInvalidFrame)) (eVar 0)) (eCons (eUn (fIsx (tbD aInvalidKind)) (eVar 0)) (eCons (eUn (fIsx (tbD aInvalidLine)) (eVar 0)) eNil)))))) (sSeq (sAsg 1 (eOp fAdd (eVar 1) (eLst (eCons (eUn (fIsx (tbD aInvalidLot)) (eVar 0)) (eCons (eUn (fIsx (tbD aInvalidLots)) (eVar 0)) (eCons (eUn (fIsx (tbD aInvalidMatch)) (eVar 0)) eNil)))))) (sSeq (sAsg 1 (eOp fAdd (eVar 1) (eLst (eCons (eUn (fIsx (tbD aInvalidName)) (eVar 0)) (eCons (eUn (fIsx (tbD aInvalidNet)) (eVar 0)) (eCons (eUn (fIsx (tbD aInvalidNumber)) (eVar 0)) eNil)))))) (sSeq (sAsg 1 (eOp fAdd (eVar 1) (eLst (eCons (eUn (fIsx (tbD aInvalidPath)) (eVar 0)) (eCons (eUn (fIsx (tbD aInvalidRule)) (eVar 0)) (eCons (eUn (fIsx (tbD aInvalidRules)) (eVar 0)) eNil)))))) (sSeq (sAsg 1 (eOp fAdd (eVar 1) (eLst (eCons (eUn (fIsx (tbD aInvalidSigns)) (eVar 0)) (eCons (eUn (fIsx (tbD aInvalidTree)) (eVar 0)) (eCons (eUn (fIsx (tbD aInvalidWish)) (eVar 0)) eNil)))))) (sSeq (sAsg 1 (eOp fAdd (eVar 1) (eLst (eCons (eUn (fIsx (tbD aNothingOpen)) (eVar 0)) (eCons (eUn (fIsx (tbD aNothingToUndo)) (eVar 0)) (eCons (eUn (fIsx (tbD aTooMany)) (eVar 0)) eNil)))))) (sRet (eOp fAdd (eVar 1) (eLst (eCons (eUn (fIsx (tbD aUnknownName)) (eVar 0)) (eCons (eUn (fIsx (tbD aUnknownSign)) (eVar 0)) (eCons (eUn (fIsx (tbD aParseError)) (eVar 0)) eNil))))))))))))
section
variable {P : Program} {w : World} {K : PySem.W.Frag} {mg : Str → Option Value} {base : Heap} {CV : Nat → Value}
theorem b_kinds {k : Nat} {f : Addr} {cdv : Value} {A : Around} {outer : List Env} {s : Shared} {H : Hp} {E : XK} (Fk : Fc K mg P) (hr : Room k (A.deeper (PyProof.Rows.envOfC "_law_kinds" (defScope sKinds) s.heap.objs.size f cdv))) :
    PSs (cxOf (L2.CX P w) P w K mg base ["one", "found"] "_law_kinds" (defScope sKinds) f cdv A outer s H E) (defBody sKinds) (tS CV (fun c d _ H => E c d H) c_kinds) := by
  refine dss_cons (dset (i := 1) scKinds.nd rfl (Or.inl rfl) (de_lst (da_cons (di Fk (Fk.c "InvalidAsk" aInvalidAsk (by decide +kernel)).1 (by decide +kernel) rfl rfl (de_var 0 (pv 0)) (by decide)) (da_cons (di Fk (Fk.c "InvalidBook" aInvalidBook (by decide +kernel)).1 (by decide +kernel) rfl rfl (de_var 0 (pv 0)) (by decide)) (da_cons (di Fk (Fk.c "InvalidBrood" aInvalidBrood (by decide +kernel)).1 (by decide +kernel) rfl rfl (de_var 0 (pv 0)) (by decide)) da_nil)))))
    (dss_cons (dset (i := 1) scKinds.nd rfl (Or.inl rfl) (de_bin op_addE o_add (de_var 1 (pv 1)) (de_lst (da_cons (di Fk (Fk.c "InvalidFrame" aInvalidFrame (by decide +kernel)).1 (by decide +kernel) rfl rfl (de_var 0 (pv 0)) (by decide)) (da_cons (di Fk (Fk.c "InvalidKind" aInvalidKind (by decide +kernel)).1 (by decide +kernel) rfl rfl (de_var 0 (pv 0)) (by decide)) (da_cons (di Fk (Fk.c "InvalidLine" aInvalidLine (by decide +kernel)).1 (by decide +kernel) rfl rfl (de_var 0 (pv 0)) (by decide)) da_nil))))))
    (dss_cons (dset (i := 1) scKinds.nd rfl (Or.inl rfl) (de_bin op_addE o_add (de_var 1 (pv 1)) (de_lst (da_cons (di Fk (Fk.c "InvalidLot" aInvalidLot (by decide +kernel)).1 (by decide +kernel) rfl rfl (de_var 0 (pv 0)) (by decide)) (da_cons (di Fk (Fk.c "InvalidLots" aInvalidLots (by decide +kernel)).1 (by decide +kernel) rfl rfl (de_var 0 (pv 0)) (by decide)) (da_cons (di Fk (Fk.c "InvalidMatch" aInvalidMatch (by decide +kernel)).1 (by decide +kernel) rfl rfl (de_var 0 (pv 0)) (by decide)) da_nil))))))
    (dss_cons (dset (i := 1) scKinds.nd rfl (Or.inl rfl) (de_bin op_addE o_add (de_var 1 (pv 1)) (de_lst (da_cons (di Fk (Fk.c "InvalidName" aInvalidName (by decide +kernel)).1 (by decide +kernel) rfl rfl (de_var 0 (pv 0)) (by decide)) (da_cons (di Fk (Fk.c "InvalidNet" aInvalidNet (by decide +kernel)).1 (by decide +kernel) rfl rfl (de_var 0 (pv 0)) (by decide)) (da_cons (di Fk (Fk.c "InvalidNumber" aInvalidNumber (by decide +kernel)).1 (by decide +kernel) rfl rfl (de_var 0 (pv 0)) (by decide)) da_nil))))))
    (dss_cons (dset (i := 1) scKinds.nd rfl (Or.inl rfl) (de_bin op_addE o_add (de_var 1 (pv 1)) (de_lst (da_cons (di Fk (Fk.c "InvalidPath" aInvalidPath (by decide +kernel)).1 (by decide +kernel) rfl rfl (de_var 0 (pv 0)) (by decide)) (da_cons (di Fk (Fk.c "InvalidRule" aInvalidRule (by decide +kernel)).1 (by decide +kernel) rfl rfl (de_var 0 (pv 0)) (by decide)) (da_cons (di Fk (Fk.c "InvalidRules" aInvalidRules (by decide +kernel)).1 (by decide +kernel) rfl rfl (de_var 0 (pv 0)) (by decide)) da_nil))))))
    (dss_cons (dset (i := 1) scKinds.nd rfl (Or.inl rfl) (de_bin op_addE o_add (de_var 1 (pv 1)) (de_lst (da_cons (di Fk (Fk.c "InvalidSigns" aInvalidSigns (by decide +kernel)).1 (by decide +kernel) rfl rfl (de_var 0 (pv 0)) (by decide)) (da_cons (di Fk (Fk.c "InvalidTree" aInvalidTree (by decide +kernel)).1 (by decide +kernel) rfl rfl (de_var 0 (pv 0)) (by decide)) (da_cons (di Fk (Fk.c "InvalidWish" aInvalidWish (by decide +kernel)).1 (by decide +kernel) rfl rfl (de_var 0 (pv 0)) (by decide)) da_nil))))))
    (dss_cons (dset (i := 1) scKinds.nd rfl (Or.inl rfl) (de_bin op_addE o_add (de_var 1 (pv 1)) (de_lst (da_cons (di Fk (Fk.c "NothingOpen" aNothingOpen (by decide +kernel)).1 (by decide +kernel) rfl rfl (de_var 0 (pv 0)) (by decide)) (da_cons (di Fk (Fk.c "NothingToUndo" aNothingToUndo (by decide +kernel)).1 (by decide +kernel) rfl rfl (de_var 0 (pv 0)) (by decide)) (da_cons (di Fk (Fk.c "TooMany" aTooMany (by decide +kernel)).1 (by decide +kernel) rfl rfl (de_var 0 (pv 0)) (by decide)) da_nil))))))
    (dss_one (ds_ret (de_bin op_addE o_add (de_var 1 (pv 1)) (de_lst (da_cons (di Fk (Fk.c "UnknownName" aUnknownName (by decide +kernel)).1 (by decide +kernel) rfl rfl (de_var 0 (pv 0)) (by decide)) (da_cons (di Fk (Fk.c "UnknownSign" aUnknownSign (by decide +kernel)).1 (by decide +kernel) rfl rfl (de_var 0 (pv 0)) (by decide)) (da_cons (di Fk Fk.pm (by decide +kernel) rfl rfl (de_var 0 (pv 0)) (by decide)) da_nil)))))))))))))
end
noncomputable def c_law (F : Fns) : CS :=
  sSeq (sAsg 1 (eCall F 0 0 eNil))
  (sSeq (sForW (gN 2) (cRg1 (eBi (fun v h m => arK (fLen v h m) 1 v) (eCons (eVar 1) eNil)))
    (sSeq (sIf (eOr (eNot (eUn (fIsx (tbD aBroodError)) (eOp fIx (eVar 1) (eVar 2)))) (eNot (eUn (fIsx tbV) (eOp fIx (eVar 1) (eVar 2))))) (sRet (eCon (.bl false))) sNx)
      (sIf (eOp fNe (eCall F 1 1 (eCons (eOp fIx (eVar 1) (eVar 2)) eNil)) (eLcW [3] (gNE 3) (cRg1 (eBi (fun v h m => arK (fLen v h m) 1 v) (eCons (eVar 1) eNil))) (eCon (.bl true)) (eOp fEq (eVar 3) (eVar 2)))) (sRet (eCon (.bl false))) sNx)))
  (sSeq (sPar [4, 5] (eCons (eExc aBroodError cy) (eCons (eIni aParseError [7, 3] (eCon (.int 3))) eNil)))
  (sSeq (sIf (eOr (eOp fIn (eCon (.bl true)) (eCall F 1 1 (eCons (eVar 4) eNil))) (eOr (eNot (eUn (fIsx tbV) (eVar 4))) (eOp fNe (eBi (fun v h m => arK (fStx allC v h m) 1 v) (eCons (eVar 4) eNil)) cy))) (sRet (eCon (.bl false))) sNx)
  (sRet (eAnd (eOp fEq (eUn (fLnx aParseError) (eVar 5)) (eCon (.int 3))) (eAnd (eOp fEq (eUn (fLnx aParseError) (eOp fIx (eVar 1) (eCon (.int 23)))) (eCon (.int 7)))
    (eOp fEq (eLcW [6] (gNE 6) (cSeq (eSl (eVar 1) noP (prt (eCon (.int 23))))) (eCon (.bl true)) (eBi (fun v h m => arK (fStx allC v h m) 1 v) (eCons (eVar 6) eNil))) (eOp fRep (eLst (eCons cx eNil)) (eCon (.int 23))))))))))
section
variable {P : Program} {w : World} {K : PySem.W.Frag} {mg : Str → Option Value} {base : Heap} {CV : Nat → Value}
theorem b_law {k : Nat} {f f0 f1 : Addr} {fd0 fd1 : FuncData} {cdv : Value} {A : Around} {outer : List Env} {s : Shared} {H : Hp} {E : XK} {F : Fns} (Fk : Fc K mg P) (hr : Room (k + 1) (A.deeper (PyProof.Rows.envOfC "law" (defScope sLaw) s.heap.objs.size f cdv)))
    (F0 : FnOk P w K mg base (L2.CX P w) (k + 1) f0 fd0 [] (spF CV F 0 0)) (g0 : mg "_law_made" = some (.ref f0)) (k0 : PySem.W.keepIn K (.ref f0) = true) (b0 : Binds K fd0 [] [])
    (F1 : FnOk P w K mg base (L2.CX P w) (k + 1) f1 fd1 ["one"] (spF CV F 1 1)) (g1 : mg "_law_kinds" = some (.ref f1)) (k1 : PySem.W.keepIn K (.ref f1) = true) (b1 : Binds K fd1 ["one"] []) :
    PSs (cxOf (L2.CX P w) P w K mg base ["script", "made", "k", "j", "base", "one", "part"] "law" (defScope sLaw) f cdv A outer s H E) (defBody sLaw) (tS CV (fun c d _ H => E c d H) (c_law F)) := by
  have hu := hr.units
  have hu2 : (A.deeper (PyProof.Rows.envOfC "law" (defScope sLaw) s.heap.objs.size f cdv)).units + 2 < cLine := by omega
  refine dss_cons (dset (i := 1) scLaw.nd rfl (Or.inl rfl) (de_call0 F0 (takes_of rfl rfl rfl rfl) hr rfl g0 k0 b0))
    (dss_cons (ds_forW (passes_of rfl) rfl (dp_rg1 rfl Fk.zr (de_bi call_lenE o_len rfl Fk.zl PySem.boot_len (da_cons (de_var 1 (pv 1)) da_nil))) (pg_name (i := 2) scLaw.nd rfl (Or.inr rfl)) (tG_name 2)
      (dss_cons (ds_if (dt_w (dw_or (dt_not (dt_val (di Fk (Fk.c "BroodError" aBroodError (by decide +kernel)).1 (by decide +kernel) rfl rfl (de_ixE (de_var 1 (pv 1)) (de_var 2 (pv 2)) (fun _ _ => rfl)) (by decide)))) (dw_one (dt_not (dt_val (dv Fk rfl rfl (de_ixE (de_var 1 (pv 1)) (de_var 2 (pv 2)) (fun _ _ => rfl)))))))) (dss_one (ds_ret (de_con pe_bl (fun _ _ _ => rfl)))) dss_nil)
        (dss_one (ds_if (dt_cmp (op_neD hu) o_ne (de_call F1 (takes_of rfl rfl rfl rfl) hr rfl g1 k1 b1 (da_cons (de_ixE (de_var 1 (pv 1)) (de_var 2 (pv 2)) (fun _ _ => rfl)) da_nil)) (de_lcW (own := [("j", 3)]) rfl scLaw.nd (dp_rg1 rfl Fk.zr (de_bi call_lenE o_len rfl Fk.zl PySem.boot_len (da_cons (de_var 1 (pv 1)) da_nil))) (blkOk_by (N := ["script", "made", "k", "j", "base", "one", "part"]) (sc := defScope sLaw) (by decide +kernel))
          (fun _ _ _ _ _ => pg_name (i := 3) scLaw.nd rfl (Or.inl rfl)) (tGE_name (by decide)) (fun _ _ _ _ _ => dts_nil) (fun _ _ _ _ _ => de_cmp (op_eqD hu) o_eq (de_var 3 (pv 3)) (de_var 2 (pv 2)) rfl)) rfl) (dss_one (ds_ret (de_con pe_bl (fun _ _ _ => rfl)))) dss_nil))))
    (dss_cons ?s3 (dss_cons ?s4 (dss_one ?s5))))
  case s3 => exact ds_par rfl scLaw.nd rfl rfl (by decide) rfl rfl (da_cons (dy Fk (by decide +kernel) rfl (by decide)) (da_cons (dp Fk hr rfl) da_nil)) rfl
  case s4 => exact ds_if (dt_w (dw_or (dt_cmp op_in_seq o_in (de_con pe_bl (fun _ _ _ => rfl)) (de_call F1 (takes_of rfl rfl rfl rfl) hr rfl g1 k1 b1 (da_cons (de_var 4 (pv 4)) da_nil)) rfl) (dw_or (dt_not (dt_val (dv Fk rfl rfl (de_var 4 (pv 4))))) (dw_one (dt_cmp (op_neD hu) o_ne (de_str hu2 Fk.ec rfl Fk.zs (by decide +kernel) (da_cons (de_var 4 (pv 4)) da_nil)) (de_con pe_str (fun _ _ _ => ⟨[121], rfl, by decide +kernel⟩)) rfl))))) (dss_one (ds_ret (de_con pe_bl (fun _ _ _ => rfl)))) dss_nil
  case s5 => exact ds_ret (de_and (de_cmp (op_eqD hu) o_eq (de_line Fk.xf Fk.no (de_var 5 (pv 5))) (de_con pe_int (fun _ _ _ => rfl)) rfl) (de_and (de_cmp (op_eqD hu) o_eq (de_line Fk.xf Fk.no (de_ixE (de_var 1 (pv 1)) (de_con pe_int (fun _ _ _ => rfl)) (fun _ _ => rfl))) (de_con pe_int (fun _ _ _ => rfl)) rfl)
    (de_one (de_cmp (op_eqD hu) o_eq (de_lcW (own := [("part", 6)]) rfl scLaw.nd (dp_seq (de_sl (de_var 1 (pv 1)) po_none (po_some (de_con (v := .int 23) pe_int (fun _ _ _ => rfl))) prt_none prt_some)) (blkOk_by (N := ["script", "made", "k", "j", "base", "one", "part"]) (sc := defScope sLaw) (by decide +kernel))
      (fun _ _ _ _ _ => pg_name (i := 6) scLaw.nd rfl (Or.inl rfl)) (tGE_name (by decide)) (fun _ _ _ _ _ => dts_nil) (fun _ _ _ _ _ => de_str hu2 Fk.ec rfl Fk.zs (by decide +kernel) (da_cons (de_var 6 (pv 6)) da_nil))) (de_bin op_rep o_rep (de_lst (da_cons (de_con pe_str (fun _ _ _ => ⟨[120], rfl, by decide +kernel⟩)) da_nil)) (de_con pe_int (fun _ _ _ => rfl))) rfl))))
end
end K25

namespace K25
open PySem PySem.Spec PyProof.Rows L2 Rf
noncomputable def Fn : Fns := fun id xs h m => match id with
  | 0 => mkFn 1 c_made xs h m
  | 1 => mkFn 1 c_kinds xs h m
  | _ => .bad
noncomputable def good (r : RS) : Bool := RS.rec (motive := fun _ => Bool) (fun _ _ _ => false) (fun v _ _ => EV.rec (motive := fun _ => Bool) false (fun b => b) (fun _ => false) (fun _ _ => false) false (fun _ _ _ _ => false) (fun _ _ => false) (fun _ _ => false) (fun _ => false) (fun _ => false) v) (fun _ _ _ => false) (fun _ _ _ => false) (fun _ _ _ _ => false) false r
theorem good_of {r : RS} (h : good r = true) : ∃ h' m', r = .ret (.bl true) h' m' := by
  cases r with
  | ret v h' m' =>
    cases v with
    | bl b =>
      have : b = true := h
      subst this
      exact ⟨h', m', rfl⟩
    | _ => exact absurd h (by intro z; cases z)
  | _ => exact absurd h (by intro z; cases z)
theorem run_law : good (c_law Fn (pads 7) .leaf 0) = true := by decide +kernel
section
variable {P : Program} {w : World} {K : PySem.W.Frag} {mg : Str → Option Value} {base : Heap} {CV : Nat → Value} {f : Addr} {fd : FuncData}
theorem ok_made (Fk : Fc K mg P) (Fu : Fun K "_law_made" "_law_made" sMade f fd) : FnOk P w K mg base (L2.CX P w) 2 f fd [] (spF CV Fn 0 0) :=
  ok_def Fu scMade (F := Fn) (id := 0) (cb := c_made) rfl fun cdv A outer s H E hr => b_made Fk hr
theorem ok_kinds (Fk : Fc K mg P) (Fu : Fun K "_law_kinds" "_law_kinds" sKinds f fd) : FnOk P w K mg base (L2.CX P w) 2 f fd ["one"] (spF CV Fn 1 1) :=
  ok_def Fu scKinds (F := Fn) (id := 1) (cb := c_kinds) rfl fun cdv A outer s H E hr => b_kinds Fk hr
def spL : Sp := fun vs _ Q _ => vs.length = 1 ∧ ∀ H', Q (.bl true) H'
theorem start_len {vs : List V} (h : vs.length = 1) : (start ["script", "made", "k", "j", "base", "one", "part"] vs).length = 7 := by
  match vs, h with
  | [_], _ => rfl
theorem ok_law {f0 f1 : Addr} {fd0 fd1 : FuncData} (Fk : Fc K mg P) (Fu : Fun K "law" "law" sLaw f fd) (U0 : Fun K "_law_made" "_law_made" sMade f0 fd0) (U1 : Fun K "_law_kinds" "_law_kinds" sKinds f1 fd1) (g0 : mg "_law_made" = some (.ref f0)) (g1 : mg "_law_kinds" = some (.ref f1)) :
    FnOk P w K mg base (L2.CX P w) 3 f fd ["script"] spL := by
  have b0 : Binds K fd0 [] [] := U0.binds fun _ _ _ _ _ _ us hl => match us, hl with | [], _ => rfl
  have b1 : Binds K fd1 ["one"] [] := U1.binds fun _ _ _ _ _ _ us hl => match us, hl with | [_], _ => rfl
  refine Fu.okX scLaw (fun vs H Q E h => h.1) fun cdv A outer s H vs Q E hr h => ⟨_, b_law (CV := fun _ => .none) (F := Fn) (k := 1) Fk hr (ok_made Fk U0) g0 U0.kp b0 (ok_kinds Fk U1) g1 U1.kp b1, ?_⟩
  let g : Gm := ⟨fun _ => 0, fun _ => False, fun _ => False, fun _ z => z⟩
  have sg : S g 0 .leaf H := ⟨fun i j o u hi => absurd hi (Nat.not_lt_zero i), fun i hi => absurd hi (Nat.not_lt_zero i), fun a z => z.elim⟩
  have lr : LR g 0 H (pads 7) (start ["script", "made", "k", "j", "base", "one", "part"] vs) := ⟨by rw [start_len h.1, pads_LLs]; rfl, fun i x q => by
    rw [pads_LLs, List.getElem?_replicate] at q
    split at q <;> cases q⟩
  refine ⟨pads 7, .leaf, 0, g, sg, lr, ?_⟩
  obtain ⟨h', m', e⟩ := good_of run_law
  rw [e]
  intro g' H' x _ _ rx
  cases (show x = .bl true from rx)
  exact h.2 H'
end
open PySem.W in
def ecB (K : Frag) (C : Nat) : Bool := (clsIn K C).isSome && (decide (findIn K (.ref C) "__getattribute__" = some (some (.builtin "BaseException.__getattribute__"))) && (decide (findIn K (.ref C) "__getattr__" = some none) && (decide (subIn K (.ref C) (.type "BaseException") = some true) &&
  (decide (findIn K (.ref C) "__class__" = some (some (.builtin "object.__class__"))) && (decide (specialIn K (.builtin "object.__class__") "__get__" = some (some (.builtin "getset_descriptor.__get__"))) && (decide (takesIn K (.builtin "object.__class__") = some true) &&
  (decide (mroIn K C (.type "object") = some true) && decide (findIn K (.ref C) "__str__" = some (some (.builtin "BaseException.__str__"))))))))))
theorem ecB_ok {K : PySem.W.Frag} {C : Nat} (h : ecB K C = true) : XV.EC K C := by
  obtain ⟨h1, h⟩ := Bool.and_eq_true_iff.mp h
  obtain ⟨h2, h⟩ := Bool.and_eq_true_iff.mp h
  obtain ⟨h3, h⟩ := Bool.and_eq_true_iff.mp h
  obtain ⟨h4, h⟩ := Bool.and_eq_true_iff.mp h
  obtain ⟨h5, h⟩ := Bool.and_eq_true_iff.mp h
  obtain ⟨h6, h⟩ := Bool.and_eq_true_iff.mp h
  obtain ⟨h7, h⟩ := Bool.and_eq_true_iff.mp h
  obtain ⟨h8, h9⟩ := Bool.and_eq_true_iff.mp h
  exact ⟨h1, of_decide_eq_true h2, of_decide_eq_true h3, of_decide_eq_true h4, of_decide_eq_true h5, of_decide_eq_true h6, of_decide_eq_true h7, of_decide_eq_true h8, of_decide_eq_true h9⟩
open PySem.W in
def plB (K : Frag) : Bool := plain.all fun p => decide (nsIn K mainGlobals p.1 = some (some (.ref p.2))) && (excIn K p.2 bmVE "ValueError.__new__" && keepIn K (.ref p.2))
open PySem.W in
def kiB (K : Frag) : Bool := allC.all fun C => decide (kitOne K (.ref C) (.type "ValueError") = some true) && allC.all fun D => decide (kitOne K (.ref C) (.ref D) = some (isT C D))
open PySem.W in
structure Ag (K : Frag) (P : Program) : Prop where
  pl : plB K = true
  ec : allC.all (ecB K) = true
  ki : kiB K = true
  xf : L2.xfB K aParseError = true
  np : nsIn K mainGlobals "ParseError" = some (some (.ref aParseError))
  no : findIn K (.ref aParseError) "line" = some none
  zi : nsIn K mainGlobals "isinstance" = some none
  zs : nsIn K mainGlobals "str" = some none
  zr : nsIn K mainGlobals "range" = some none
  zl : nsIn K mainGlobals "len" = some none
  zv : nsIn K mainGlobals "ValueError" = some none
  zu : nsIn K mainGlobals "super" = some none
  sa : findIn K (.ref aParseError) "__setattr__" = some (some (.builtin "object.__setattr__"))
  eB : subIn K (.ref aParseError) (.type "BaseException") = some true
  ty : typeIn K (.ref aParseError) = some (.type "type")
  kp : keepIn K (.ref aParseError) = true
  sb : mroIn K aParseError (.ref aParseError) = some true
  op : nsIn K cStatics "thirdparty.any" = some none
  su : ks_superIn K aParseError aParseError "__init__" = some (some (.builtin "ValueError.__init__"))
  iV : subIn K (.ref aParseError) (.type "ValueError") = some true
  fn : findIn K (.ref aParseError) "__init__" = some (some (.ref fI))
  ti : typeIn K (.ref fI) = some (.type "function")
theorem fc_of {P : Program} {K : PySem.W.Frag} {h : Heap} {mg : Str → Option Value} (X : K.In h) (G : h.Ns mainGlobals mg) (T : Ag K P)
    {nm q : Str} {N : Addr} {bs bm : List Value} {sn : List Str} {sub : List Value} {ab : Bool} {col : Option Bool} {dd : Option Addr} {m0 m1 m2 m3 m5 : Option Value}
    (xP : K.lookup aParseError = some (excClassObj nm q aParseError N bs bm true sn sub ab col dd m0 m1 m2 m3 m5 "ValueError.__new__")) (hbm : PySem.HandSPX.refsVE bm = true)
    {oc ct kV doc pm ccl cl : Value} {od an cdd cld : Option Addr} {osl ccs csl : Array (Option Value)} {vs : Array Value} {file qual : Str} {tf : Tok} {cc cda : Addr}
    (l1 : K.lookup fI = some ⟨oc, od, .func (PySem.W.ksFn "__init__" qual XV.iniParams XV.iniBody XV.iniScope .none kV doc pm an (.ref cda) ct cc), osl⟩) (l2 : PySem.W.codeIn K (.ref cda) qual = true)
    (l3 : K.lookup cda = some ⟨ccl, cdd, .fields vs, ccs⟩) (l4 : vs[2]? = some (.str file tf)) (l5 : ((P.main.file : Str) == file) = true) (l6 : K.lookup cc = some ⟨cl, cld, .cell (some (.ref aParseError)), csl⟩) (l7 : (P.main.scope.names.lookup ("super" : Str)).isSome = false) : Fc K mg P where
  c := fun n a ha => by
    have z := List.all_eq_true.mp T.pl (n, a) ha
    obtain ⟨z1, z⟩ := Bool.and_eq_true_iff.mp z
    obtain ⟨z2, z3⟩ := Bool.and_eq_true_iff.mp z
    exact ⟨PySem.W.mg_of X G (of_decide_eq_true z1), z2, z3⟩
  pm := PySem.W.mg_of X G T.np
  ec := fun C hC => ecB_ok (List.all_eq_true.mp T.ec C hC)
  ik := fun C hC D hD => of_decide_eq_true (List.all_eq_true.mp (Bool.and_eq_true_iff.mp (List.all_eq_true.mp T.ki C hC)).2 D hD)
  iv := fun C hC => of_decide_eq_true (Bool.and_eq_true_iff.mp (List.all_eq_true.mp T.ki C hC)).1
  ic := ⟨⟨⟨nm, q, N, bs, bm, sn, sub, ab, col, dd, m0, m1, m2, m3, m5, xP, hbm⟩, T.sa, T.eB, T.ty, T.kp⟩, ⟨oc, ct, kV, doc, pm, ccl, cl, od, an, cdd, cld, osl, ccs, csl, vs, file, qual, tf, cc, cda, l1, l2, l3, l4, l5, l6⟩, l7, T.sb, T.op, T.su, T.iV, T.no, T.fn, T.ti⟩
  xf := L2.xfB_ok T.xf
  no := T.no
  zi := PySem.W.mg_none_of X G T.zi
  zs := PySem.W.mg_none_of X G T.zs
  zr := PySem.W.mg_none_of X G T.zr
  zl := PySem.W.mg_none_of X G T.zl
  zv := PySem.W.mg_none_of X G T.zv
  zu := PySem.W.mg_none_of X G T.zu
theorem fin {P : Program} {w : World} {K : PySem.W.Frag} {h : Heap} {mg : Str → Option Value} {fa f0 f1 f2 : Addr} (X : K.In h) (G : h.Ns mainGlobals mg) (hfa : mg "law" = some (.ref fa)) (T : Ag K P)
    {nm q : Str} {N : Addr} {bs bm : List Value} {sn : List Str} {sub : List Value} {ab : Bool} {col : Option Bool} {dd : Option Addr} {m0 m1 m2 m3 m5 : Option Value}
    {oc ct kV doc pm ccl cl : Value} {od an cdd cld : Option Addr} {osl ccs csl : Array (Option Value)} {vs : Array Value} {file qual : Str} {tf : Tok} {cc cda : Addr}
    {od0 an0 od1 an1 od2 an2 : Option Addr} {sl0 sl1 sl2 : Array (Option Value)} {oc0 kV0 dc0 pm0 cd0 ct0 oc1 kV1 dc1 pm1 cd1 ct1 oc2 kV2 dc2 pm2 cd2 ct2 : Value}
    (xP : K.lookup aParseError = some (excClassObj nm q aParseError N bs bm true sn sub ab col dd m0 m1 m2 m3 m5 "ValueError.__new__")) (hbm : PySem.HandSPX.refsVE bm = true)
    (l1 : K.lookup fI = some ⟨oc, od, .func (PySem.W.ksFn "__init__" qual XV.iniParams XV.iniBody XV.iniScope .none kV doc pm an (.ref cda) ct cc), osl⟩) (l2 : PySem.W.codeIn K (.ref cda) qual = true)
    (l3 : K.lookup cda = some ⟨ccl, cdd, .fields vs, ccs⟩) (l4 : vs[2]? = some (.str file tf)) (l5 : ((P.main.file : Str) == file) = true) (l6 : K.lookup cc = some ⟨cl, cld, .cell (some (.ref aParseError)), csl⟩) (l7 : (P.main.scope.names.lookup ("super" : Str)).isSome = false)
    (a0 : PySem.W.nsIn K mainGlobals "_law_made" = some (some (.ref f0))) (d0 : K.lookup f0 = some ⟨oc0, od0, .func (PySem.W.fnOf "_law_made" "_law_made" (defArgs sMade) (defBody sMade) (defScope sMade) .none kV0 dc0 pm0 an0 cd0 ct0), sl0⟩) (c0 : PySem.W.codeIn K cd0 "_law_made" = true) (k0 : PySem.W.keepIn K (.ref f0) = true)
    (a1 : PySem.W.nsIn K mainGlobals "_law_kinds" = some (some (.ref f1))) (d1 : K.lookup f1 = some ⟨oc1, od1, .func (PySem.W.fnOf "_law_kinds" "_law_kinds" (defArgs sKinds) (defBody sKinds) (defScope sKinds) .none kV1 dc1 pm1 an1 cd1 ct1), sl1⟩) (c1 : PySem.W.codeIn K cd1 "_law_kinds" = true) (k1 : PySem.W.keepIn K (.ref f1) = true)
    (a2 : PySem.W.nsIn K mainGlobals "law" = some (some (.ref f2))) (d2 : K.lookup f2 = some ⟨oc2, od2, .func (PySem.W.fnOf "law" "law" (defArgs sLaw) (defBody sLaw) (defScope sLaw) .none kV2 dc2 pm2 an2 cd2 ct2), sl2⟩) (c2 : PySem.W.codeIn K cd2 "law" = true) (k2 : PySem.W.keepIn K (.ref f2) = true) :
    ∃ fd : FuncData, (∀ (s : Shared) (u : Value), BindsTo s fd ⟨[u], []⟩ [("script", u)]) ∧ ∀ base : Heap, K.In base → base.Ns mainGlobals mg → FnOk P w K mg base (L2.CX P w) 3 fa fd ["script"] spL := by
  have e := hfa.symm.trans (PySem.W.mg_of X G a2)
  cases e
  have Fk := fc_of X G T xP hbm l1 l2 l3 l4 l5 l6 l7
  exact ⟨_, fun s u => .of_eq rfl, fun base _ _ => ok_law Fk (fun_mk (st := sLaw) d2 c2 k2) (fun_mk (st := sMade) d0 c0 k0) (fun_mk (st := sKinds) d1 c1 k1) (PySem.W.mg_of X G a0) (PySem.W.mg_of X G a1)⟩
end K25

open PySem PySem.W PyProof.Rows
set_option maxHeartbeats 0 in
theorem PySem.Challenge.cw_broodcounts_k25_error_classes_holds : PySem.Challenge.rw_broodcounts_k25_error_classes.Holds := by
  w_on; o_law; k_head; (case hw => w_witness2)
  k_fill
  refine L2.walk_of (l := PySem.Challenge.rw_broodcounts_k25_error_classes) (n := 63) (k := 3) (x := "script") (CX := fun w => L2.CX PySem.Challenge.pw_broodcounts_k25_error_classes w) (sp := fun _ => K25.spL) rfl (by decide) rfl ⟨rfl, by decide, by decide⟩ (fun w h Y => PySem.W.kIn_of Y) ?F (fun _ _ _ _ _ _ _ => ⟨rfl, fun _ => rfl⟩) (fun _ _ _ _ _ ⟨_, _, _, _, _, _, _, _, _, _, _, _, z⟩ => z)
  case F =>
    intro w mg fa h KX G hmg
    refine' K25.fin (P := PySem.Challenge.pw_broodcounts_k25_error_classes) KX G hmg ⟨?pl, ?ec, ?ki, ?xf, ?np, ?no, ?zi, ?zs, ?zr, ?zl, ?zv, ?zu, ?sa, ?eB, ?ty, ?kp, ?sb, ?op, ?su, ?iV, ?fn, ?ti⟩ ?xP ?hbm ?l1 ?l2 ?l3 ?l4 ?l5 ?l6 ?l7 ?a0 ?d0 ?c0 ?k0 ?a1 ?d1 ?c1 ?k1 ?a2 ?d2 ?c2 ?k2
    (case pl => kernel_rfl)
    (case ec => kernel_rfl)
    (case ki => kernel_rfl)
    (case xf => kernel_rfl)
    (case np => first | k_is | kernel_rfl)
    (case no => first | k_is | kernel_rfl)
    (case zi => first | k_is | kernel_rfl)
    (case zs => first | k_is | kernel_rfl)
    (case zr => first | k_is | kernel_rfl)
    (case zl => first | k_is | kernel_rfl)
    (case zv => first | k_is | kernel_rfl)
    (case zu => first | k_is | kernel_rfl)
    (case sa => first | k_is | kernel_rfl)
    (case eB => first | k_is | kernel_rfl)
    (case ty => first | k_is | kernel_rfl)
    (case kp => first | k_is | kernel_rfl)
    (case sb => first | k_is | kernel_rfl)
    (case op => first | k_is | kernel_rfl)
    (case su => first | k_is | kernel_rfl)
    (case iV => first | k_is | kernel_rfl)
    (case fn => first | k_is | kernel_rfl)
    (case ti => first | k_is | kernel_rfl)
    (case xP => first | k_is | kernel_rfl)
    (case hbm => first | rfl | decide +kernel)
    (case l1 => first | k_is | kernel_rfl)
    (case l2 => first | k_is | kernel_rfl)
    (case l3 => first | k_is | kernel_rfl)
    (case l4 => exact rfl)
    (case l5 => first | rfl | decide +kernel)
    (case l6 => first | k_is | kernel_rfl)
    (case l7 => first | rfl | decide +kernel)
    (case a0 => first | k_is | kernel_rfl)
    (case d0 => first | k_is | kernel_rfl)
    (case c0 => first | k_is | kernel_rfl)
    (case k0 => first | k_is | kernel_rfl)
    (case a1 => first | k_is | kernel_rfl)
    (case d1 => first | k_is | kernel_rfl)
    (case c1 => first | k_is | kernel_rfl)
    (case k1 => first | k_is | kernel_rfl)
    (case a2 => first | k_is | kernel_rfl)
    (case d2 => first | k_is | kernel_rfl)
    (case c2 => first | k_is | kernel_rfl)
    (case k2 => first | k_is | kernel_rfl)
